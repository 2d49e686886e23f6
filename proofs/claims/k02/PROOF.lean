import PyProof.Rows.All
import Wide.All
import OpenK.AllK
import Wide.FinOn
import PyProof.EqAt
import PyProof.EqKinds
import PyProof.TupleCall
import HandS.Base
import HandS.Call
import HandS.List
import HandS.Set
import HandS.SetFor
import HandS.Comp
import HandS.Iter
import HandS.Text
import HandS.Ends
import HandS.Words
import HandS.WordsList
import HandS.IsInst
import HandS.Style
import HandS.TupAny
import HandS.More
import HandS.Walk
import HandS.Wide
import HandS.Codes
import HandS.ReCall
import HandS.Strs
import KE.KExcInit
import KE.KTryMore
import KE.KExcHand
import HandS.Exc
import HandS.ExcInit
import HandS.WordsExc
import HandS.HotCalls
import HandS.Lambda
import HandS.ExcField
import HandS.EndOwn
import HandS.Deep
import PyProof.P3In
import KE.GoesEnum
import HandS.Star
import PyProof.EnumMake
import PySem.Challenge.RW_threeorders_k02_lots_joined_and_parted
set_option Elab.async false
set_option linter.all false
set_option maxRecDepth 100000
set_option maxHeartbeats 8000000
/-! sets of texts: set(xs) of a list or tuple of texts, sorted of it -/
namespace L2
open PySem PySem.Spec PyProof.Rows

/-- the text that an entry of a set's table holds -/
def tagOf (v : Value) : Str := match v with | .str x _ => x | _ => Str.empty
def tagE (e : Int × Value) : Str := tagOf e.2

/-- at a stands a set whose members are the texts of l, each once; its table can be walked -/
def TxSet (P : Program) (w : World) (h : Heap) (a : Addr) (l : List Str) : Prop :=
  ∃ o es ep t, h.get? a = some o ∧ o.ExactSet ∧ o.data = .set es ep t ∧
    (∀ e ∈ es.toList, ∃ tk, e.2 = Value.str (tagE e) tk ∧ e.1 = (PySem.strKind P w).hash (tagE e)) ∧
    (es.toList.map tagE).Perm l ∧ l.Nodup ∧ es.size < scanBound ∧ t.fits es.size = true ∧ Ris t.place.toList ∧
    (w.params.followText "set-order" = true ∨ t.led = true)

section
variable {P : Program} {w : World} {h h' : Heap} {a : Addr} {l : List Str}
theorem TxSet.stay (R : TxSet P w h a l) (k : ∀ o, h.get? a = some o → h'.get? a = some o) : TxSet P w h' a l :=
  let ⟨o, es, ep, t, ho, r⟩ := R
  ⟨o, es, ep, t, k o ho, r⟩
theorem TxSet.perm {m : List Str} (R : TxSet P w h a l) (p : l.Perm m) : TxSet P w h a m :=
  let ⟨o, es, ep, t, ho, hx, hd, g, pm, nd, r⟩ := R
  ⟨o, es, ep, t, ho, hx, hd, g, pm.trans p, p.nodup_iff.mp nd, r⟩
theorem tx_elems {es : List (Int × Value)} (g : ∀ e ∈ es, ∃ tk, e.2 = Value.str (tagE e) tk ∧ e.1 = (PySem.strKind P w).hash (tagE e)) : ElemsOf (PySem.strKind P w) es := by
  intro e he
  obtain ⟨tk, h1, h2⟩ := g e he
  refine ⟨⟨tagE e, ?_, h2⟩, ?_⟩
  · rw [h1]
    exact PySem.strKind_is P w (tagE e) tk
  · rw [h1]
    rfl
theorem tx_is {es : List (Int × Value)} (g : ∀ e ∈ es, ∃ tk, e.2 = Value.str (tagE e) tk ∧ e.1 = (PySem.strKind P w).hash (tagE e)) {e : Int × Value} (he : e ∈ es) (x : Str) : (PySem.strKind P w).is x e.2 = true ↔ tagE e = x := by
  obtain ⟨tk, h1, _⟩ := g e he
  constructor
  · intro q
    rw [h1] at q
    obtain ⟨t, z⟩ := Value.isStrOf_shape (show Value.isStrOf x (Value.str (tagE e) tk) = true from q)
    injection z
  · intro q
    rw [h1, q]
    exact PySem.strKind_is P w x tk
end

section
variable {P : Program} {w : World} {A : Around} {E : Value → Shared → Prop} {s : Shared} {a : Addr} {l : List Str}

/-- the set's store, and the table's growth behind it -/
theorem tx_store {g : Bool → Sem Unit} (hg : ∀ (b : Bool) (s₁ : Shared) (Q' : Unit → Shared → Prop), Q' () s₁ → wpAny (model P w) A (g b) Q' E s₁)
    {o : Obj} {es : Array (Int × Value)} {ep : Nat} {t : SetTable} (ho : s.heap.get? a = some o) (hex : o.ExactSet) (hd : o.data = .set es ep t)
    {fs : Array (Int × Value)} {u : SetTable} {m : List Str}
    (hgood : ∀ e ∈ fs.toList, ∃ tk, e.2 = Value.str (tagE e) tk ∧ e.1 = (PySem.strKind P w).hash (tagE e)) (hp : (fs.toList.map tagE).Perm m) (hm : m.Nodup)
    (hb : fs.size < scanBound) (hf : u.fits fs.size = true) (hr : Ris u.place.toList) (hl : w.params.followText "set-order" = true ∨ u.led = true) {dum : Bool} {R : Option Bool → Shared → Prop}
    (fin : ∀ h', Heap.SameBut a s.heap h' → TxSet P w h' a m → R (some true) { s with heap := h' }) :
    wpAny (model P w) A (do
        storeSet a fs u
        if (!dum && u.tooFull) = true then do
            g (relayAll u fs (SetTable.grown fs.size)).2.2
            storeSet a (relayAll u fs (SetTable.grown fs.size)).1 (relayAll u fs (SetTable.grown fs.size)).2.1
            pure (some true)
          else pure (some true)) R E s := by
  refine wpAny_bind (wpAny_storeSet_of ho hd ?_ (fits_of_scanBound hb))
  have q1 := store_at (es' := fs) (t' := u) ho hd
  have b1 := Heap.SameBut.update s.heap a (Obj.putSet fs u)
  split
  · have c1 := relayAll_perm u fs (SetTable.grown fs.size)
    have c2 := relayAll_fits u fs (SetTable.grown fs.size)
    have c3 := relayAll_ris u fs (SetTable.grown fs.size)
    have c4 := relayAll_led u fs (SetTable.grown fs.size)
    generalize relayAll u fs (SetTable.grown fs.size) = Z at c1 c2 c3 c4 ⊢
    obtain ⟨gs, v, gave⟩ := Z
    dsimp only at c1 c2 c3 c4 ⊢
    have z1 : gs.size = fs.size := by rw [← Array.length_toList, c1.length_eq, Array.length_toList]
    have z2 : gs.size < scanBound := by rw [z1]; exact hb
    refine wpAny_bind (hg _ _ _ ?_)
    refine wpAny_bind (wpAny_storeSet_of q1 rfl ?_ (fits_of_scanBound z2))
    have q2 := store_at (es' := gs) (t' := v) q1 rfl
    refine wpAny_pure (fin _ (b1.trans (Heap.SameBut.update _ a _)) ?_)
    refine ⟨_, gs, _, v, q2, hex, rfl, fun e he => hgood e (c1.mem_iff.mp he), (c1.map tagE).trans hp, hm, z2, c2, c3, ?_⟩
    rcases hl with z | z
    · exact .inl z
    · exact .inr (c4.trans z)
  · exact wpAny_pure (fin _ b1 ⟨_, fs, _, u, q1, hex, rfl, hgood, hp, hm, hb, hf, hr, hl⟩)

/-- one text more -/
theorem tx_put {x : Str} {tk : Tok} {Q : Bool → Shared → Prop} (R : TxSet P w s.heap a l) (room : l.length + 1 < scanBound)
    (fin : ∀ h' b, Heap.SameBut a s.heap h' → TxSet P w h' a (if x ∈ l then l else x :: l) → Q b { s with heap := h' }) :
    wpAny (model P w) A (setAddHashed a (.str x tk) ((PySem.strKind P w).hash x)) Q E s := by
  obtain ⟨o, es, ep, t, ho, hex, hd, g, hp, nd, hb, hf, hr, hl⟩ := R
  have hkey : (PySem.strKind P w).is x (.str x tk) = true := PySem.strKind_is P w x tk
  have hsc : (Value.str x tk).scannable = true := rfl
  have hel := tx_elems g
  unfold setAddHashed setAddHashedIn
  refine wpAny_holding (wpAny_bind (wpAny_setState_of ho hd hf ?_))
  dsimp only
  rw [byScan_of hsc hb hel]
  simp only [↓reduceIte]
  unfold setAddByScan
  refine wpAny_bind (wpAny_bind (wpAny_rule (wpAny_bind (wpAny_setScan_of hkey ho hd hf hel ?_))))
  cases hfi : List.findIdx? (fun e => (PySem.strKind P w).is x e.2) es.toList with
  | some j =>
    dsimp only
    obtain ⟨hj, pj, _⟩ := List.findIdx?_eq_some_iff_getElem.mp hfi
    have hx : x ∈ l := hp.mem_iff.mp (List.mem_map.mpr ⟨es.toList[j], List.getElem_mem hj, (tx_is g (List.getElem_mem hj) x).mp pj⟩)
    refine wpAny_pure (wpAny_pure (fin s.heap _ (Heap.SameBut.refl a s.heap) ?_))
    rw [if_pos hx]
    exact ⟨o, es, ep, t, ho, hex, hd, g, hp, nd, hb, hf, hr, hl⟩
  | none =>
    dsimp only
    have hx : x ∉ l := fun z => by
      obtain ⟨e, he, q⟩ := List.mem_map.mp (hp.mem_iff.mpr z)
      have c := List.findIdx?_eq_none_iff.mp hfi e he
      rw [(tx_is g he x).mpr q] at c
      cases c
    have gw : ∀ (b : Bool) {s₁ : Shared} {Q' : Unit → Shared → Prop}, Q' () s₁ → wpAny (model P w) A (match b with | true => rule "set.scan.the-table-gave-way" | false => pure ()) Q' E s₁ :=
      fun b s₁ Q' q => by cases b <;> first | exact wpAny_pure q | exact wpAny_rule q
    have d1 := layNew_perm t es ((PySem.strKind P w).hash x) (.str x tk)
    have d2 := layNew_fits t es ((PySem.strKind P w).hash x) (.str x tk)
    have d3 := layNew_ris t es ((PySem.strKind P w).hash x) (.str x tk) hr
    have d4 := layNew_led t es ((PySem.strKind P w).hash x) (.str x tk)
    generalize layNew t es ((PySem.strKind P w).hash x) (.str x tk) = Z at d1 d2 d3 d4 ⊢
    obtain ⟨fs, u, dum, gave⟩ := Z
    dsimp only at d1 d2 d3 d4 ⊢
    rw [Array.toList_push] at d1
    have e1 : fs.toList.Perm (((PySem.strKind P w).hash x, Value.str x tk) :: es.toList) := d1.trans (List.perm_append_singleton _ _)
    have e2 : (fs.toList.map tagE).Perm (x :: l) := (e1.map tagE).trans (List.Perm.cons x hp)
    have good : ∀ e ∈ fs.toList, ∃ tk, e.2 = Value.str (tagE e) tk ∧ e.1 = (PySem.strKind P w).hash (tagE e) := fun e he => by
      rcases List.mem_cons.mp (e1.mem_iff.mp he) with z | z
      · rw [z]; exact ⟨tk, rfl, rfl⟩
      · exact g e z
    have e3 : (x :: l).Nodup := List.nodup_cons.mpr ⟨hx, nd⟩
    have e4 : fs.size = l.length + 1 := by rw [← Array.length_toList, ← List.length_map (f := tagE), e2.length_eq]; rfl
    have e5 : fs.size < scanBound := by rw [e4]; exact room
    have e6 : w.params.followText "set-order" = true ∨ u.led = true := by
      rcases hl with z | z
      · exact .inl z
      · exact .inr (d4.trans z)
    have last : ∀ h' b, Heap.SameBut a s.heap h' → TxSet P w h' a (x :: l) → Q b { s with heap := h' } := fun h' b sb r => fin h' b sb (by rw [if_neg hx]; exact r)
    refine wpAny_bind (gw _ ?_)
    split
    · refine wpAny_bind ?_
      rw [hashByValue_scannable 8 hsc]
      refine wpAny_pure ?_
      refine tx_store ?_ ho hex hd good e2 e3 e5 ?_ ?_ ?_ ?_
      · intro b s₁ Q' q; cases b <;> first | exact wpAny_pure q | exact wpAny_rule q
      · first | (split <;> first | exact d2 | exact SetTable.fits_plain_off d2) | exact d2
      · first | (split <;> exact d3) | exact d3
      · first | (split <;> exact e6) | exact e6
      · intro h' sb r; dsimp only; exact wpAny_pure (last h' _ sb r)
    · refine wpAny_bind (wpAny_pure ?_)
      simp only [↓reduceIte]
      refine tx_store ?_ ho hex hd good e2 e3 e5 d2 d3 e6 ?_
      · intro b s₁ Q' q; cases b <;> first | exact wpAny_pure q | exact wpAny_rule q
      · intro h' sb r; dsimp only; exact wpAny_pure (last h' _ sb r)

/-- the texts of xs, each once, as a set that took them one by one holds them -/
def once : List Str → List Str → List Str
  | acc, [] => acc
  | acc, x :: r => once (if x ∈ acc then acc else x :: acc) r
theorem once_nodup : ∀ (xs acc : List Str), acc.Nodup → (once acc xs).Nodup
  | [], _, h => h
  | x :: r, acc, h => by
    unfold once
    refine once_nodup r _ ?_
    split
    · exact h
    · exact List.nodup_cons.mpr ⟨by assumption, h⟩
theorem once_mem : ∀ (xs acc : List Str) (y : Str), y ∈ once acc xs ↔ y ∈ acc ∨ y ∈ xs
  | [], acc, y => by simp [once]
  | x :: r, acc, y => by
    unfold once
    rw [once_mem r _ y]
    split
    · rename_i hx
      constructor
      · rintro (z | z)
        · exact .inl z
        · exact .inr (List.mem_cons_of_mem _ z)
      · rintro (z | z)
        · exact .inl z
        · rcases List.mem_cons.mp z with e | z
          · exact .inl (e ▸ hx)
          · exact .inr z
    · simp only [List.mem_cons]
      constructor
      · rintro ((z | z) | z)
        · exact .inr (.inl z)
        · exact .inl z
        · exact .inr (.inr z)
      · rintro (z | z | z)
        · exact .inl (.inr z)
        · exact .inl (.inl z)
        · exact .inr z
theorem once_length : ∀ (xs acc : List Str), (once acc xs).length ≤ acc.length + xs.length
  | [], acc => by simp [once]
  | x :: r, acc => by
    unfold once
    have q := once_length r (if x ∈ acc then acc else x :: acc)
    rw [List.length_cons]
    split at q
    · rw [if_pos (by assumption)]; omega
    · rw [if_neg (by assumption)]; rw [List.length_cons] at q; omega

/-- the loop of set(xs): one text after another -/
theorem tx_loop {I : Addr} {fp wr : List Addr} {G : Array GenState → Array GenState → Prop} {n : Nat} {Pv : Nat → Value → Prop} {St : Nat → Shared → Prop} {R : Result → Shared → Prop}
    (W : WalksS P w A.in1 I fp wr G n Pv St) (S : Addr) (hSf : S ∉ fp) (xs : List Str) (hn : n = xs.length) (hval : ∀ i v, Pv i v → ∃ x t, xs[i]? = some x ∧ v = .str x t) :
    ∀ (k i : Nat) (acc : List Str) (s : Shared), n - i = k → i ≤ n → St i s → TxSet P w s.heap S acc → acc.length + k + 1 < scanBound →
      (∀ s', Moved (S :: wr) G s s' → TxSet P w s'.heap S (once acc (xs.drop i)) → R (.ok (.ret .none)) s') →
      codeAny (model P w) A (.builtin "set.update.loop" ⟨[.ref S, .ref I], []⟩) R s := by
  have nw : S ∉ wr := fun h => hSf (W.sub _ h)
  have sb : ∀ b ∈ wr, b ∈ S :: wr := fun b hb => List.mem_cons_of_mem _ hb
  intro k
  induction k with
  | zero =>
    intro i acc s hk hi hst hS _ hR
    have e : i = n := by omega
    subst e
    refine codeAny_builtin F.entry_set_update_loop ?_
    rw [Around.under_plainId F.plain_set_update_loop _]
    show wpAny _ A.in1 (pyNext (.ref I) >>= _) _ _ s
    refine wpAny_bind (W.done s _ _ hst fun s' hm => ?_)
    show wpAny _ A.in1 (ret Value.none) _ _ s'
    have q : xs.drop i = [] := List.drop_eq_nil_of_le (by omega)
    rw [q] at hR
    exact wpAny_pure (hR s' (hm.mono sb) (hS.stay fun o e => hm.heap S o nw e))
  | succ k ih =>
    intro i acc s hk hi hst hS hroom hR
    have lt : i < n := by omega
    refine codeAny_builtin F.entry_set_update_loop ?_
    rw [Around.under_plainId F.plain_set_update_loop _]
    show wpAny _ A.in1 (pyNext (.ref I) >>= _) _ _ s
    refine wpAny_bind (W.item i s _ _ lt hst fun v s' hP hst' hm => ?_)
    obtain ⟨x, t, hx, rfl⟩ := hval i v hP
    have hS1 : TxSet P w s'.heap S acc := hS.stay fun o e => hm.heap S o nw e
    show wpAny _ A.in1 (holding [Value.str x t] (setAdd S (.str x t)) >>= _) _ _ s'
    refine wpAny_bind (wpAny_holding ?_)
    unfold setAdd
    refine wpAny_holding ?_
    refine wpAny_bind ((PySem.strKind P w).pyHash (k := x) (PySem.strKind_is _ _ _ _) ?_)
    refine tx_put (s := { s' with toks := s'.toks + 1 }) hS1 (by omega) fun h' b hsb hS2 => ?_
    have ed : xs.drop i = x :: xs.drop (i + 1) := by
      have hlt : i < xs.length := by omega
      rw [List.drop_eq_getElem_cons hlt]
      have q : xs[i] = x := by
        rw [List.getElem?_eq_getElem hlt] at hx
        exact Option.some.inj hx
      rw [q]
    have hlen : (if x ∈ acc then acc else x :: acc).length ≤ acc.length + 1 := by
      split
      · omega
      · exact Nat.le_refl _
    refine wpAny_pure ⟨plainId_quiet F.plain_set_update_loop _, ih (i + 1) _ _ (by omega) lt (W.frame _ s' _ _ hst' (Nat.le_succ _) fun b hb o e => ?_) hS2 (by omega) fun s'' hm'' hS'' => ?_⟩
    · rw [hsb.2 b (fun h : b = S => hSf (by rw [← h]; exact hb))]; exact e
    · refine hR s'' (Moved.trans W.gtrans ((hm.mono sb).then_heap (Nat.le_succ _) fun b o hb e => ?_) hm'') (by rw [ed]; exact hS'')
      rw [hsb.2 b (fun h : b = S => hb (by rw [h]; exact List.mem_cons_self))]; exact e
end

/-- the set that set() has just laid -/
abbrev txNew (w : World) : Obj := { cls := .type "set", dict := none, data := .set #[] 0 (.fresh 0 0 (!w.params.followText "set-order")) }
theorem txNew_at {P : Program} {w : World} {h : Heap} {a : Addr} (ho : h.get? a = some (txNew w)) : TxSet P w h a [] :=
  ⟨_, #[], 0, _, ho, ⟨rfl, rfl, rfl⟩, rfl, (fun e he => by simp at he), (by simp), List.nodup_nil, (by decide), (by rfl), List.Pairwise.nil, by
    show _ ∨ (!w.params.followText "set-order") = true
    cases w.params.followText "set-order"
    · exact .inr rfl
    · exact .inl rfl⟩
theorem txs_at : ∀ {us : List Value} {xs : List Str}, StrsAre us xs → ∀ (i : Nat) (v : Value), us[i]? = some v → ∃ x t, xs[i]? = some x ∧ v = .str x t
  | _, _, .nil, i, v, h => by simp at h
  | _, _, .cons y t r, 0, v, h => ⟨y, t, rfl, by simpa using h.symm⟩
  | _, _, .cons y t r, i + 1, v, h => by
    simp only [List.getElem?_cons_succ] at h
    exact txs_at r i v h
section
variable {P : Program} {w : World} {A : Around} {E : Value → Shared → Prop} {s : Shared}

set_option maxRecDepth 100000 in
set_option maxHeartbeats 6400000 in
/-- set(xs), xs a tuple of texts -/
theorem tx_call_tuple {l : Addr} {items : Array Value} (xs : List Str) {Q : Value → Shared → Prop} (hh : A.handled = none) (hl : s.heap.IsTuple l items) (hit : StrsAre items.toList xs) (hb : xs.length + 1 < scanBound)
    (fin : ∀ (h' : Heap) (tk : Nat), TxSet P w h' s.heap.objs.size (once [] xs) → (∀ b o, s.heap.get? b = some o → h'.get? b = some o) → Q (.ref s.heap.objs.size) { s with heap := h', toks := tk }) :
    wpAny (model P w) A (call (.type "set") [.ref l]) Q E s := by
  have isz : items.size = xs.length := by
    have q := StrsAre.len_eq hit
    rw [Array.length_toList] at q
    exact q
  obtain ⟨c, tl, hmro⟩ := F.called_set.mro
  have hmade := F.called_set.made
  have hsub := F.called_set.sub
  refine wpAny_call (codeAny_of_tree ?_)
  show wpAny _ _ (callAny (.type "set") _) _ _ _
  refine wpAny_pure ⟨Code.quiet_builtin _ (by decide +kernel), codeAny_builtin F.entry_type_call ?_⟩
  rw [Around.under_plain (weight_type_call_type "set" [.ref l] []) rfl]
  have h1 := F.called_set.notType
  have h2 := F.called_set.canCreate
  have hct := F.typeCall_set_1 (.ref l)
  repeat (any_goals (first | assumption | wp_step))
  refine codeAny_mono (code_set_led1 (.ref l) (E := E) (Q₁ := fun obj s₁ => obj = .ref s.heap.objs.size ∧ s₁ = { s with heap := s.heap.push (txNew w) }) ⟨rfl, rfl⟩) fun r s₁ hr => ?_
  cases r with
  | error e => exact hr
  | ok fl =>
    cases fl with
    | ret obj =>
      obtain ⟨rfl, rfl⟩ := hr
      have atS : (s.heap.push (txNew w)).get? s.heap.objs.size = some (txNew w) := Heap.get?_push_size _ rfl
      have hT : Shared.TypeIs { s with heap := s.heap.push (txNew w) } (.ref s.heap.objs.size) "set" := ⟨_, atS, rfl⟩
      have hli := F.called_set.init.lookup
      have hbi := F.called_set.init.bind (.ref s.heap.objs.size)
      repeat (any_goals (first | assumption | wp_step))
      refine codeAny_mono (codeAny_call_builtin (R := wants (fun r s₂ => r = .none ∧ ∃ h' tk, s₂ = { s with heap := h', toks := tk } ∧ TxSet P w h' s.heap.objs.size (once [] xs) ∧
          (∀ b o, s.heap.get? b = some o → h'.get? b = some o)) E) F.called_set.init.plain F.entry_set_init (check_set_init_1 hT ?_)) fun r₂ s₂ hr₂ => ?_
      · obtain ⟨ol, hol, hcl, nl, hdl⟩ := hl
        obtain ⟨ocls, odict, odata, oslots⟩ := ol
        simp only at hcl hdl
        subst hcl; subst hdl
        have old : (s.heap.push (txNew w)).get? l = some { cls := .type "tuple", dict := odict, data := .seq items nl, slots := oslots } := Heap.get?_push_of_some _ hol
        have hsls := F.sub_tuple_set
        have hslf := F.sub_tuple_frozenset
        have hne : (Value.type "tuple" == Value.type "dict") = false := by decide
        have hl1 : (s.heap.push (txNew w)).IsTuple l items := ⟨_, old, rfl, nl, rfl⟩
        unfold Builtin.«set.__init__» noKeywords Builtin.Frozenset.updateFrom
        generalize hPI : pyIter = PI
        wp_walk
        subst hPI
        refine wpAny_pyIter_tuple hl1 ?_
        refine wpAny_bind (wpAny_runValue ?_)
        have lS : l < s.heap.objs.size := Heap.lt_size hol
        have hh3 : A.in1.in1.in1.handled = none := by simp [hh]
        have apart : l ≠ (s.heap.push (txNew w)).objs.size := by
          rw [Heap.size_push]; exact Nat.ne_of_lt (Nat.lt_succ_of_lt lS)
        have notfp : s.heap.objs.size ∉ [(s.heap.push (txNew w)).objs.size, l] := by
          rw [Heap.size_push]; simp only [List.mem_cons, List.mem_singleton, List.not_mem_nil, or_false, not_or]
          exact ⟨Nat.ne_of_lt (Nat.lt_succ_self _), Nat.ne_of_gt lS⟩
        have hval : ∀ (i : Nat) (v : Value), items[i]? = some v → ∃ x t, xs[i]? = some x ∧ v = .str x t := fun i v hv => txs_at hit i v (by rw [Array.getElem?_toList]; exact hv)
        have at0 : ((s.heap.push (txNew w)).push { cls := .type "tuple_iterator", data := .fields #[.ref l, .int 0 0] }).get? s.heap.objs.size = some (txNew w) := Heap.get?_push_of_some _ atS
        refine tx_loop ((Walks.tuple hh3 _ l apart items).toS) s.heap.objs.size notfp xs isz hval (items.size - 0) 0 [] _ (by omega) (Nat.zero_le _)
          ⟨⟨_, Heap.get?_push_size _ rfl, rfl, rfl⟩, (hl1.push _)⟩ (txNew_at at0) (by rw [isz]; simpa using hb) fun s' hm hS => ?_
        obtain ⟨h', g2, d', tk', os'⟩ := s'
        have eg : g2 = s.gens := hm.gens
        have ed : d' = s.drawn := hm.drawn
        have eo : os' = s.os := hm.os
        subst eg; subst ed; subst eo
        show wpAny _ _ _ _ _ _
        refine wpAny_pure ?_
        show wpAny _ _ (ret Value.none) _ _ _
        refine wpAny_pure ⟨rfl, h', tk', rfl, hS, fun b o e => ?_⟩
        have b0 : b < s.heap.objs.size := Heap.lt_size e
        have b1 : b ≠ s.heap.objs.size := Nat.ne_of_lt b0
        have b2 : b ≠ (s.heap.push (txNew w)).objs.size := by
          rw [Heap.size_push]; exact Nat.ne_of_lt (Nat.lt_succ_of_lt b0)
        exact hm.heap b o (by simp only [List.mem_cons, List.mem_singleton, List.not_mem_nil, or_false, not_or]; exact ⟨b1, b2⟩) (Heap.get?_push_of_some _ (Heap.get?_push_of_some _ e))
      · cases r₂ with
        | error e => exact hr₂
        | ok fl₂ =>
          cases fl₂ with
          | ret r =>
            obtain ⟨rfl, h', tk, rfl, hS, kp⟩ := hr₂
            repeat (any_goals (first | assumption | wp_step))
            exact fin _ _ hS kp
          | _ => exact hr₂.elim
    | _ => exact hr.elim

set_option maxRecDepth 100000 in
set_option maxHeartbeats 6400000 in
/-- set(xs), xs a list of texts -/
theorem tx_call_list {l : Addr} {items : Array Value} (xs : List Str) {Q : Value → Shared → Prop} (hh : A.handled = none) (hl : s.heap.IsList l items) (hit : StrsAre items.toList xs) (hb : xs.length + 1 < scanBound)
    (fin : ∀ (h' : Heap) (tk : Nat), TxSet P w h' s.heap.objs.size (once [] xs) → (∀ b o, s.heap.get? b = some o → h'.get? b = some o) → Q (.ref s.heap.objs.size) { s with heap := h', toks := tk }) :
    wpAny (model P w) A (call (.type "set") [.ref l]) Q E s := by
  have isz : items.size = xs.length := by
    have q := StrsAre.len_eq hit
    rw [Array.length_toList] at q
    exact q
  obtain ⟨c, tl, hmro⟩ := F.called_set.mro
  have hmade := F.called_set.made
  have hsub := F.called_set.sub
  refine wpAny_call (codeAny_of_tree ?_)
  show wpAny _ _ (callAny (.type "set") _) _ _ _
  refine wpAny_pure ⟨Code.quiet_builtin _ (by decide +kernel), codeAny_builtin F.entry_type_call ?_⟩
  rw [Around.under_plain (weight_type_call_type "set" [.ref l] []) rfl]
  have h1 := F.called_set.notType
  have h2 := F.called_set.canCreate
  have hct := F.typeCall_set_1 (.ref l)
  repeat (any_goals (first | assumption | wp_step))
  refine codeAny_mono (code_set_led1 (.ref l) (E := E) (Q₁ := fun obj s₁ => obj = .ref s.heap.objs.size ∧ s₁ = { s with heap := s.heap.push (txNew w) }) ⟨rfl, rfl⟩) fun r s₁ hr => ?_
  cases r with
  | error e => exact hr
  | ok fl =>
    cases fl with
    | ret obj =>
      obtain ⟨rfl, rfl⟩ := hr
      have atS : (s.heap.push (txNew w)).get? s.heap.objs.size = some (txNew w) := Heap.get?_push_size _ rfl
      have hT : Shared.TypeIs { s with heap := s.heap.push (txNew w) } (.ref s.heap.objs.size) "set" := ⟨_, atS, rfl⟩
      have hli := F.called_set.init.lookup
      have hbi := F.called_set.init.bind (.ref s.heap.objs.size)
      repeat (any_goals (first | assumption | wp_step))
      refine codeAny_mono (codeAny_call_builtin (R := wants (fun r s₂ => r = .none ∧ ∃ h' tk, s₂ = { s with heap := h', toks := tk } ∧ TxSet P w h' s.heap.objs.size (once [] xs) ∧
          (∀ b o, s.heap.get? b = some o → h'.get? b = some o)) E) F.called_set.init.plain F.entry_set_init (check_set_init_1 hT ?_)) fun r₂ s₂ hr₂ => ?_
      · obtain ⟨ol, hol, hcl, nl, hdl⟩ := hl
        obtain ⟨ocls, odict, odata, oslots⟩ := ol
        simp only at hcl hdl
        subst hcl; subst hdl
        have old : (s.heap.push (txNew w)).get? l = some { cls := .type "list", dict := odict, data := .seq items nl, slots := oslots } := Heap.get?_push_of_some _ hol
        have hsls := F.sub_list_set
        have hslf := F.sub_list_frozenset
        have hne : (Value.type "list" == Value.type "dict") = false := by decide
        have hl1 : (s.heap.push (txNew w)).IsList l items := ⟨_, old, rfl, nl, rfl⟩
        unfold Builtin.«set.__init__» noKeywords Builtin.Frozenset.updateFrom
        generalize hPI : pyIter = PI
        wp_walk
        subst hPI
        refine wpAny_pyIter_list hl1 ?_
        refine wpAny_bind (wpAny_runValue ?_)
        have lS : l < s.heap.objs.size := Heap.lt_size hol
        have hh3 : A.in1.in1.in1.handled = none := by simp [hh]
        have apart : l ≠ (s.heap.push (txNew w)).objs.size := by
          rw [Heap.size_push]; exact Nat.ne_of_lt (Nat.lt_succ_of_lt lS)
        have notfp : s.heap.objs.size ∉ [(s.heap.push (txNew w)).objs.size, l] := by
          rw [Heap.size_push]; simp only [List.mem_cons, List.mem_singleton, List.not_mem_nil, or_false, not_or]
          exact ⟨Nat.ne_of_lt (Nat.lt_succ_self _), Nat.ne_of_gt lS⟩
        have hval : ∀ (i : Nat) (v : Value), items[i]? = some v → ∃ x t, xs[i]? = some x ∧ v = .str x t := fun i v hv => txs_at hit i v (by rw [Array.getElem?_toList]; exact hv)
        have at0 : ((s.heap.push (txNew w)).push { cls := .type "list_iterator", data := .fields #[.ref l, .int 0 0] }).get? s.heap.objs.size = some (txNew w) := Heap.get?_push_of_some _ atS
        refine tx_loop ((Walks.list hh3 _ l apart items).toS) s.heap.objs.size notfp xs isz hval (items.size - 0) 0 [] _ (by omega) (Nat.zero_le _)
          ⟨⟨_, Heap.get?_push_size _ rfl, rfl, rfl⟩, (hl1.push _)⟩ (txNew_at at0) (by rw [isz]; simpa using hb) fun s' hm hS => ?_
        obtain ⟨h', g2, d', tk', os'⟩ := s'
        have eg : g2 = s.gens := hm.gens
        have ed : d' = s.drawn := hm.drawn
        have eo : os' = s.os := hm.os
        subst eg; subst ed; subst eo
        show wpAny _ _ _ _ _ _
        refine wpAny_pure ?_
        show wpAny _ _ (ret Value.none) _ _ _
        refine wpAny_pure ⟨rfl, h', tk', rfl, hS, fun b o e => ?_⟩
        have b0 : b < s.heap.objs.size := Heap.lt_size e
        have b1 : b ≠ s.heap.objs.size := Nat.ne_of_lt b0
        have b2 : b ≠ (s.heap.push (txNew w)).objs.size := by
          rw [Heap.size_push]; exact Nat.ne_of_lt (Nat.lt_succ_of_lt b0)
        exact hm.heap b o (by simp only [List.mem_cons, List.mem_singleton, List.not_mem_nil, or_false, not_or]; exact ⟨b1, b2⟩) (Heap.get?_push_of_some _ (Heap.get?_push_of_some _ e))
      · cases r₂ with
        | error e => exact hr₂
        | ok fl₂ =>
          cases fl₂ with
          | ret r =>
            obtain ⟨rfl, h', tk, rfl, hS, kp⟩ := hr₂
            repeat (any_goals (first | assumption | wp_step))
            exact fin _ _ hS kp
          | _ => exact hr₂.elim
    | _ => exact hr.elim

theorem txs_of : ∀ (l : List Value), (∀ v ∈ l, ∃ tk, v = Value.str (tagOf v) tk) → StrsAre l (l.map tagOf)
  | [], _ => .nil
  | v :: l, h => by
    obtain ⟨tk, e⟩ := h v List.mem_cons_self
    rw [List.map_cons]
    generalize tagOf v = x at e ⊢
    subst e
    exact .cons x tk (txs_of l fun u hu => h u (List.mem_cons_of_mem _ hu))

/-- sorted(a set of texts) -/
theorem tx_sorted {a : Addr} {l : List Str} {Q : Value → Shared → Prop} (R : TxSet P w s.heap a l) (hh : A.handled = none) (h64 : l.length < 64)
    (fin : ∀ s' p (out : Array Value) (c : Nat) (ys : List Str), (∀ b o, s.heap.get? b = some o → s'.heap.get? b = some o) → s'.gens = s.gens → s'.os = s.os → s.heap.objs.size ≤ p →
      s'.heap.get? p = some (seqObj "list" out c) → StrsAre out.toList ys → ys.Perm l → sortedS ys = true → Q (.ref p) s') :
    wpAny (model P w) A (call (.builtin "sorted") [.ref a]) Q E s := by
  obtain ⟨o, es, ep, t, ho, hex, hd, g, hp, nd, hb, hf, hr, hl⟩ := R
  refine Calls.call_function_entry kind_sorted plain_sorted entry_sorted (args_sorted1 _) ?_
  unfold Builtin.«sorted»
  refine wpAny_bind (m := checkCount "sorted" 1 1 _) (wpAny_pure ?_)
  refine wpAny_bind (collect_set (A := A.in1) hh ⟨o, ho, hex.1, hd⟩ hf hb hr hl fun s1 vs k1 hz g1 o1 pm => ?_)
  have hS : StrsAre vs (vs.map tagOf) := txs_of vs fun v hv => by
    obtain ⟨e, he, q⟩ := List.mem_map.mp (pm.mem_iff.mp hv)
    obtain ⟨tk, h1, _⟩ := g e he
    rw [← q]
    exact ⟨tk, h1⟩
  have pk : (vs.map tagOf).Perm l := by
    have q := pm.map tagOf
    rw [List.map_map] at q
    exact q.trans hp
  have hvl : vs.length = l.length := by rw [← pk.length_eq, List.length_map]
  refine wpAny_bind (wpAny_newList ?_ (by rw [hvl, sizeLine_eq]; omega))
  have hoL : (s1.heap.push (seqObj "list" vs.toArray 0)).get? s1.heap.objs.size = some (seqObj "list" vs.toArray 0) := Heap.get?_push_size _ rfl
  refine wpAny_bind (wpAny_holding (wpAny_call_entry slot_list_sort ⟨_, hoL, rfl⟩ entry_list_sort
    (list_sort_treeK strKind_oneLt hoL hS.keysOf (fun v₁ v₂ rest e => keyKind_strs (by rw [← e]; exact hS)) (by rw [hvl]; exact h64) fun st' a1 a2 => ⟨_, rfl, ?_⟩) (args_list_sort _)))
  obtain ⟨ys, b1, b2, b3⟩ := sorted_out_str hS a1 a2
  obtain ⟨c, hc⟩ := sortedHeap_at (vs := vs) (out := (arrOf st').map (·.2)) hoL
  refine wpAny_pure ⟨_, rfl, fin _ s1.heap.objs.size _ c ys (fun b u e => ?_) g1 o1 hz hc b1 (b2.trans pk) b3⟩
  have q := k1 b u e
  have hlt := Heap.lt_size q
  show (sortedHeap (s1.heap.push (seqObj "list" vs.toArray 0)) s1.heap.objs.size vs _).get? b = some u
  rw [sortedHeap_old (Nat.ne_of_lt hlt) (by rw [size_push']; exact Nat.lt_succ_of_lt hlt)]
  exact Heap.get?_push_of_some _ q
end

end L2
namespace L2
open PySem PySem.Spec PyProof.Rows
/-! over the abstract heap -/
def SetS (P : Program) (w : World) (a : Addr) (l : List Str) : HO := .ext fun h => TxSet P w h a l
section
variable {X : Cx}
def rSetS (X : Cx) : List V → Hp → VK → Prop := fun vs H Q => ∃ (a : Addr) (xs : List Str), vs = [V.ref a] ∧ (SqL X.K H a (xs.map V.str) ∨ SqT X.K H a (xs.map V.str)) ∧ xs.length + 1 < scanBound ∧
  ∀ p, H p = none → Q (.ref p) (upd H p (SetS X.prog X.w p (once [] xs)))
theorem cr_setS (hc : X.calm = true) : CallR X (.type "set") (rSetS X) := by
  intro pins s σ H vs us Q I r h
  obtain ⟨a, xs, rfl, hs, hb, q⟩ := h
  rw [Vals.ref1 r]
  have key : ∀ (h' : Heap) (tk : Nat), TxSet X.prog X.w h' s.heap.objs.size (once [] xs) → (∀ b o, s.heap.get? b = some o → h'.get? b = some o) →
      EP X pins σ Q (.ref s.heap.objs.size) { s with heap := h', toks := tk } := fun h' tk R k => by
    have hn : H s.heap.objs.size = none := I.hok.fresh (Nat.le_refl _)
    refine ⟨.ref _, _, I.laid (t' := tk) k (Nat.le_refl _) ?_, rfl, q _ hn⟩
    refine ⟨R, ?_, fun h1 h2 z kk => z.stay kk⟩
    obtain ⟨o, _, _, _, ho, _⟩ := R
    exact ⟨o, ho⟩
  rcases hs with hs | hs
  · obtain ⟨its, rv, hl, _⟩ := I.list hs
    exact tx_call_list xs (I.ok.hd hc) hl.isList rv.strs hb key
  · obtain ⟨its, rv, hl, _⟩ := I.tuple hs
    exact tx_call_tuple xs (I.ok.hd hc) (show s.heap.IsTuple a its.toArray from hl) rv.strs hb key
def rSortedSetS (X : Cx) : List V → Hp → VK → Prop := fun vs H Q => ∃ (a : Addr) (l : List Str), vs = [V.ref a] ∧ H a = some (SetS X.prog X.w a l) ∧ l.length < 64 ∧
  ∀ (ys : List Str) (p : Addr), ys.Perm l → sortedS ys = true → H p = none → Q (.ref p) (upd H p (.lst (ys.map V.str)))
theorem cr_sortedSetS (hc : X.calm = true) : CallR X (.builtin "sorted") (rSortedSetS X) := by
  intro pins s σ H vs us Q I r h
  obtain ⟨a, l, rfl, ha, h64, q⟩ := h
  have R : TxSet X.prog X.w s.heap a l := (I.hok a _ ha).1
  rw [Vals.ref1 r]
  refine tx_sorted R (I.ok.hd hc) h64 fun s' p out c ys k g o hp hg hi hs hm => ?_
  have hlen : (ys.map V.str).length ≤ sizeLine := by rw [List.length_map, hs.length_eq, sizeLine_eq]; omega
  have hn : H p = none := I.hok.fresh hp
  have J : Inv X pins σ (upd H p (.lst (ys.map V.str))) { s with heap := s'.heap, gens := s'.gens, drawn := s'.drawn, toks := s'.toks } :=
    I.call (ch := []) (Un.laid k hp hn) (I.hok.laid k hp ⟨hlen, out.toList, c, vals_of_strs hi, hg⟩) (by rw [g]; exact I.bare) (fun _ z => nomatch z)
  have e : s' = { s with heap := s'.heap, gens := s'.gens, drawn := s'.drawn, toks := s'.toks } := by
    cases s'
    cases s
    cases o
    rfl
  rw [e]
  exact ⟨.ref p, _, J, rfl, q ys p hs hm hn⟩
end
end L2
/-! what all the laws' proofs share: the list that draws, data, names -/
namespace L2
open PySem PySem.Spec PyProof.Rows
section
variable {X : Cx} {CX : CXT} {k : Nat} {f : Addr} {fd : FuncData} {ps ks : List Str} {sp : Sp} {E : XK} {x : Str} {p pos : Pos} {kws : List Keyword} {tk : TA} {g : List Value → List Value → List Value} {gV : List V → List V → List V}
/-- f(k = v, ..), no argument by place -/
theorem pe_callK0 (F : FnOk X.prog X.w X.K X.mg X.base CX k f fd ps sp) (hr : Room k X.A) (hg : Gl X x) (hm : X.mg x = some (.ref f)) (hk : PySem.W.keepIn X.K (.ref f) = true) (hb : KBinds X.K fd ps ks g gV) (hx : Passes CX X E)
    (hkw : PK X kws tk) (hall : (backToKw pos (keywordEach kws X.env)).all (·.1.isSome) = true := by rfl) (hks : (backToKw pos (keywordEach kws X.env)).filterMap (·.1) = ks := by rfl)
    (hdb : (x == ("__debug__" : Str)) = false := by decide) (hpl : ((backTo pos (starEach [] X.env)).any (·.1) || (backToKw pos (keywordEach kws X.env)).any (·.1.isNone)) = false := by rfl) :
    PE X (.Call (.Name x p) [] kws pos) (tCallK sp gV E tNil tk) := by
  refine ⟨fun pins s σ H Q I h => ?_⟩
  refine wpAny_Call_Name_kw (ld_glob I hg hm ?_ hdb)
  refine PySem.W.callWith_KW0 (h₀ := X.base) I.ok.mod.kin hk hall ?_ hpl
  refine thn (hkw.run pos pins s σ H _ I h) fun ws s2 ⟨zs, H2, I2, rz, q2⟩ => ⟨I2.kIn, ?_⟩
  rw [hks]
  exact run_fnk (us := []) (vs := []) F hr hb hx I2 .nil rz q2
end
end L2

namespace Th
open PySem PySem.Spec PyProof.Rows L2

/-! ### heaps: what stands, but for one list -/
def hid (p : Addr) (H : Hp) : Hp := fun a => if a = p then none else H a
theorem hid_ne {p a : Addr} {H : Hp} (h : a ≠ p) : hid p H a = H a := if_neg h
theorem hid_self {p : Addr} {H : Hp} : hid p H p = none := if_pos rfl
theorem hid_some {p a : Addr} {H : Hp} {o : HO} (h : hid p H a = some o) : a ≠ p ∧ H a = some o := by
  by_cases e : a = p
  · subst e
    rw [hid_self] at h
    cases h
  · rw [hid_ne e] at h
    exact ⟨e, h⟩
theorem hid_same {p : Addr} {H : Hp} : Same (hid p H) H := fun a o h => (hid_some h).2
theorem same_new {H : Hp} {p : Addr} {o : HO} (h : H p = none) : Same H (upd H p o) := fun b x e => by
  rw [upd_ne (ne_of_none e h)]
  exact e
theorem same_mut {H H' : Hp} {q : Addr} {o : HO} (e : Same H H') (h : H q = none) : Same H (upd H' q o) := fun a u ha => by
  rw [upd_ne (ne_of_none ha h)]
  exact e a u ha

/-- the list that draws: where it stands, where its script stands, the script -/
structure DS where
  p : Addr
  l : Addr
  ns : List Int
structure Drw (D : DS) (H : Hp) : Prop where
  ne : D.l ≠ D.p
  sc : H D.l = some (.lst (D.ns.map V.int))
  few : D.ns.length ≤ 63
  st : ∃ i v m c : Int, H D.p = some (.lst [.ref D.l, .int i, .int v, .int m, .int c]) ∧ 0 ≤ i ∧ 0 ≤ v ∧ 0 ≤ m ∧ m < 2147483648 ∧ 0 ≤ c
theorem Drw.new {D : DS} {H : Hp} {q : Addr} {o : HO} (d : Drw D H) (h : H q = none) : Drw D (upd H q o) := by
  obtain ⟨ne, sc, few, i, v, m, c, st, r⟩ := d
  exact ⟨ne, by rw [upd_ne (ne_of_none sc h)]; exact sc, few, i, v, m, c, by rw [upd_ne (ne_of_none st h)]; exact st, r⟩
theorem Drw.at {D : DS} {H : Hp} (d : Drw D H) : ∃ o, H D.p = some o := by
  obtain ⟨_, _, _, i, v, m, c, st, _⟩ := d
  exact ⟨_, st⟩
structure Go (D : DS) (H H' : Hp) : Prop where
  sm : Same (hid D.p H) (hid D.p H')
  st : Drw D H'
theorem Go.refl {D : DS} {H : Hp} (d : Drw D H) : Go D H H := ⟨Same.refl _, d⟩
theorem Go.trans {D : DS} {H H1 H2 : Hp} (a : Go D H H1) (b : Go D H1 H2) : Go D H H2 := ⟨a.sm.trans b.sm, b.st⟩
theorem Go.of {D : DS} {H H' : Hp} (d : Drw D H) (s : Same H H') : Go D H H' := by
  refine ⟨fun a o h => ?_, ?_⟩
  · obtain ⟨e, h⟩ := hid_some h
    rw [hid_ne e]
    exact s a o h
  · obtain ⟨ne, sc, few, i, v, m, c, st, r⟩ := d
    exact ⟨ne, s _ _ sc, few, i, v, m, c, s _ _ st, r⟩
theorem Go.new {D : DS} {H H' : Hp} {q : Addr} {o : HO} (g : Go D H H') (h : H' q = none) : Go D H (upd H' q o) := g.trans (.of g.st (same_new h))
/-- a thing that did not stand ahead may change -/
theorem Go.mut {D : DS} {H H' : Hp} {q : Addr} {o : HO} (g : Go D H H') (d : Drw D H) (h : H q = none) : Go D H (upd H' q o) := by
  have np : q ≠ D.p := fun e => by
    obtain ⟨u, hu⟩ := d.at
    rw [← e, h] at hu
    cases hu
  refine ⟨fun a u ha => ?_, ?_⟩
  · obtain ⟨e, ha'⟩ := hid_some ha
    have q1 := g.sm a u ha
    rw [hid_ne e] at q1 ⊢
    rw [upd_ne (ne_of_none ha' h)]
    exact q1
  · obtain ⟨ne, sc, few, i, v, m, c, st, r⟩ := g.st
    exact ⟨ne, by rw [upd_ne (ne_of_none d.sc h)]; exact sc, few, i, v, m, c, by rw [upd_ne np.symm]; exact st, r⟩
theorem Go.free {D : DS} {H H' : Hp} {q : Addr} (g : Go D H H') (d : Drw D H) (h : H' q = none) : H q = none := by
  cases e : H q with
  | none => rfl
  | some o =>
    by_cases z : q = D.p
    · obtain ⟨u, hu⟩ := g.st.at
      rw [← z, h] at hu
      cases hu
    · have q1 := g.sm q o (by rw [hid_ne z]; exact e)
      rw [hid_ne z, h] at q1
      cases q1
theorem Go.old {D : DS} {H H' : Hp} {q : Addr} {o : HO} (g : Go D H H') (z : q ≠ D.p) (h : H q = some o) : H' q = some o := by
  have q1 := g.sm q o (by rw [hid_ne z]; exact h)
  rw [hid_ne z] at q1
  exact q1
theorem Drw.ne_new {D : DS} {H : Hp} {q : Addr} (d : Drw D H) (h : H q = none) : q ≠ D.p := fun e => by
  obtain ⟨u, hu⟩ := d.at
  rw [← e, h] at hu
  cases hu

/-! ### data -/
mutual
inductive Da (K : PySem.W.Frag) (H : Hp) : V → PyData → Prop
  | non : Da K H .non .none
  | bl (b : Bool) : Da K H (.bl b) (.bool b)
  | int (i : Int) : Da K H (.int i) (.int i)
  | str (x : Str) : Da K H (.str x) (.str x)
  | lst {a : Addr} {xs : List V} {ds : List PyData} : SqL K H a xs → TyX K H (.ref a) (.type "list") → DaAll K H xs ds → Da K H (.ref a) (.list ds)
  | tup {a : Addr} {xs : List V} {ds : List PyData} : SqT K H a xs → TyX K H (.ref a) (.type "tuple") → DaAll K H xs ds → Da K H (.ref a) (.tuple ds)
inductive DaAll (K : PySem.W.Frag) (H : Hp) : List V → List PyData → Prop
  | nil : DaAll K H [] []
  | cons {v : V} {vs : List V} {d : PyData} {ds : List PyData} : Da K H v d → DaAll K H vs ds → DaAll K H (v :: vs) (d :: ds)
end
theorem same_rd {H H' : Hp} {a : Addr} {u : HO} (e : Same H H') (h : Rd H a u) : Rd H' a u := by
  rcases h with h | ⟨o, h⟩
  · exact .inl (e a _ h)
  · exact .inr ⟨o, e a _ h⟩
theorem same_t {K : PySem.W.Frag} {H H' : Hp} {a : Addr} {xs : List V} (e : Same H H') (h : SqT K H a xs) : SqT K H' a xs := by
  rcases h with h | h
  · exact .inl (same_rd e h)
  · exact .inr h
theorem ty_same {K : PySem.W.Frag} {H H' : Hp} {v : V} {t : Value} (e : Same H H') (h : TyX K H v t) : TyX K H' v t := by
  cases h with
  | base b =>
    refine .base ?_
    cases b with
    | non => exact .non
    | bl x => exact .bl x
    | int i => exact .int i
    | str x => exact .str x
    | flt x => exact .flt x
    | lst h => exact .lst (e _ _ h)
    | frz h => exact .frz (e _ _ h)
    | tup h => exact .tup (e _ _ h)
    | dK h => exact .dK (e _ _ h)
    | dT h => exact .dT (e _ _ h)
    | ins h cl ha hn htk hm => exact .ins (e _ _ h) cl ha hn htk hm
  | byt b => exact .byt b
  | set h => exact .set (e _ _ h)
  | kList h c => exact .kList h c
  | kTuple h c => exact .kTuple h c
  | kDict h c => exact .kDict h c
  | fTuple h => exact .fTuple (e _ _ h)
  | fDict h => exact .fDict (e _ _ h)
section
variable {K : PySem.W.Frag} {H H' : Hp}
mutual
theorem Da.mono (e : Same H H') : ∀ (d : PyData) (v : V), Da K H v d → Da K H' v d
  | .none, _, h => by
    cases h
    exact .non
  | .bool b, _, h => by
    cases h
    exact .bl b
  | .int i, _, h => by
    cases h
    exact .int i
  | .str x, _, h => by
    cases h
    exact .str x
  | .list ds, _, h => by
    cases h with
    | lst hs ht ha => exact .lst (e.seq hs) (ty_same e ht) (DaAll.mono e ds _ ha)
  | .tuple ds, _, h => by
    cases h with
    | tup hs ht ha => exact .tup (same_t e hs) (ty_same e ht) (DaAll.mono e ds _ ha)
  | .dict _, _, h => by cases h
theorem DaAll.mono (e : Same H H') : ∀ (ds : List PyData) (vs : List V), DaAll K H vs ds → DaAll K H' vs ds
  | [], _, h => by
    cases h
    exact .nil
  | d :: ds, _, h => by
    cases h with
    | cons h1 h2 => exact .cons (Da.mono e d _ h1) (DaAll.mono e ds _ h2)
end
mutual
theorem Da.dp : ∀ (d : PyData) (v : V), Da K H v d → Dp K H v d
  | .none, _, h => by
    cases h
    exact .non
  | .bool b, _, h => by
    cases h
    exact .bl b
  | .int i, _, h => by
    cases h
    exact .int i
  | .str x, _, h => by
    cases h
    exact .str x
  | .list ds, _, h => by
    cases h with
    | lst hs ht ha => exact .lst hs (DaAll.dp ds _ ha)
  | .tuple ds, _, h => by
    cases h with
    | tup hs ht ha => exact .tup hs (DaAll.dp ds _ ha)
  | .dict _, _, h => by cases h
theorem DaAll.dp : ∀ (ds : List PyData) (vs : List V), DaAll K H vs ds → DpAll K H vs ds
  | [], _, h => by
    cases h
    exact .nil
  | d :: ds, _, h => by
    cases h with
    | cons h1 h2 => exact .cons (Da.dp d _ h1) (DaAll.dp ds _ h2)
end
theorem Da.to (h : Da K H v d) (e : Same H H') : Da K H' v d := Da.mono e d v h
theorem DaAll.to (h : DaAll K H vs ds) (e : Same H H') : DaAll K H' vs ds := DaAll.mono e ds vs h
theorem DaAll.len : ∀ {vs : List V} {ds : List PyData}, DaAll K H vs ds → vs.length = ds.length
  | _, _, .nil => rfl
  | _, _, .cons _ r => congrArg Nat.succ r.len
theorem DaAll.at : ∀ {vs : List V} {ds : List PyData} {i : Nat} {v : V}, DaAll K H vs ds → vs[i]? = some v → ∃ d, ds[i]? = some d ∧ Da K H v d
  | _, _, _, _, .nil, h => by simp at h
  | _, _, 0, v, .cons h _, e => ⟨_, rfl, by simp at e; rw [← e]; exact h⟩
  | _, _, i + 1, v, .cons _ r, e => by
    simp only [List.getElem?_cons_succ] at e
    obtain ⟨d, h1, h2⟩ := r.at e
    exact ⟨d, by simpa using h1, h2⟩
theorem DaAll.at' {vs : List V} {ds : List PyData} {i : Nat} {d : PyData} (h : DaAll K H vs ds) (e : ds[i]? = some d) : ∃ v, vs[i]? = some v ∧ Da K H v d := by
  obtain ⟨hi, _⟩ := List.getElem?_eq_some_iff.mp e
  have hv : i < vs.length := by rw [h.len]; exact hi
  obtain ⟨d', e', q⟩ := h.at (List.getElem?_eq_getElem hv)
  rw [e] at e'
  cases e'
  exact ⟨_, List.getElem?_eq_getElem hv, q⟩
theorem DaAll.app : ∀ {vs ws : List V} {ds es : List PyData}, DaAll K H vs ds → DaAll K H ws es → DaAll K H (vs ++ ws) (ds ++ es)
  | _, _, _, _, .nil, r => r
  | _, _, _, _, .cons h t, r => .cons h (t.app r)
theorem DaAll.take : ∀ {vs : List V} {ds : List PyData} (n : Nat), DaAll K H vs ds → DaAll K H (vs.take n) (ds.take n)
  | _, _, 0, _ => .nil
  | _, _, n + 1, .nil => .nil
  | _, _, n + 1, .cons h t => .cons h (t.take n)
theorem DaAll.drop : ∀ {vs : List V} {ds : List PyData} (n : Nat), DaAll K H vs ds → DaAll K H (vs.drop n) (ds.drop n)
  | _, _, 0, h => h
  | _, _, n + 1, .nil => .nil
  | _, _, n + 1, .cons h t => t.drop n
theorem DaAll.strs : ∀ xs : List Str, DaAll K H (xs.map V.str) (xs.map PyData.str)
  | [] => .nil
  | x :: r => .cons (.str x) (DaAll.strs r)
theorem DaAll.bls : ∀ xs : List Bool, DaAll K H (xs.map V.bl) (xs.map PyData.bool)
  | [] => .nil
  | x :: r => .cons (.bl x) (DaAll.bls r)
/-- a value of data that is all texts: the texts -/
theorem DaAll.isStrs : ∀ {vs : List V} {xs : List Str}, DaAll K H vs (xs.map PyData.str) → vs = xs.map V.str
  | _, [], h => by
    cases h
    rfl
  | _, x :: r, h => by
    cases h with
    | cons h1 h2 =>
      cases h1
      rw [h2.isStrs]
      rfl
theorem Da.newT {H : Hp} {q : Addr} {xs : List V} {ds : List PyData} (h : H q = some (.tup xs)) (r : DaAll K H xs ds) : Da K H (.ref q) (.tuple ds) := .tup (.inl (.inl h)) (.base (.tup h)) r
theorem Da.newL {H : Hp} {q : Addr} {xs : List V} {ds : List PyData} (h : H q = some (.lst xs)) (r : DaAll K H xs ds) : Da K H (.ref q) (.list ds) := .lst (.inl (.inl h)) (.base (.lst h)) r
end
/-- the class of a datum -/
def tyD : PyData → String
  | .none => "NoneType" | .bool _ => "bool" | .int _ => "int" | .str _ => "str" | .list _ => "list" | .tuple _ => "tuple" | .dict _ => "dict"
theorem Da.ty {K : PySem.W.Frag} {H : Hp} {v : V} {d : PyData} (h : Da K H v d) : TyX K H v (.type (tyD d)) := by
  cases h with
  | non => exact .base .non
  | bl b => exact .base (.bl b)
  | int i => exact .base (.int i)
  | str x => exact .base (.str x)
  | lst _ t _ => exact t
  | tup _ t _ => exact t
theorem kit_str (d : PyData) (h : tyD d ≠ "dict") : kitB (tyD d) "str" = some (decide (tyD d = "str")) := by
  cases d with
  | none => exact (by decide +kernel : kitB "NoneType" "str" = some (decide ("NoneType" = "str")))
  | bool b => exact (by decide +kernel : kitB "bool" "str" = some (decide ("bool" = "str")))
  | int i => exact (by decide +kernel : kitB "int" "str" = some (decide ("int" = "str")))
  | str x => exact (by decide +kernel : kitB "str" "str" = some (decide ("str" = "str")))
  | list xs => exact (by decide +kernel : kitB "list" "str" = some (decide ("list" = "str")))
  | tuple xs => exact (by decide +kernel : kitB "tuple" "str" = some (decide ("tuple" = "str")))
  | dict kvs => exact absurd rfl h
theorem kit_int (d : PyData) (h : tyD d ≠ "dict") : kitB (tyD d) "int" = some (decide (tyD d = "int" ∨ tyD d = "bool")) := by
  cases d with
  | none => exact (by decide +kernel : kitB "NoneType" "int" = some (decide ("NoneType" = "int" ∨ "NoneType" = "bool")))
  | bool b => exact (by decide +kernel : kitB "bool" "int" = some (decide ("bool" = "int" ∨ "bool" = "bool")))
  | int i => exact (by decide +kernel : kitB "int" "int" = some (decide ("int" = "int" ∨ "int" = "bool")))
  | str x => exact (by decide +kernel : kitB "str" "int" = some (decide ("str" = "int" ∨ "str" = "bool")))
  | list xs => exact (by decide +kernel : kitB "list" "int" = some (decide ("list" = "int" ∨ "list" = "bool")))
  | tuple xs => exact (by decide +kernel : kitB "tuple" "int" = some (decide ("tuple" = "int" ∨ "tuple" = "bool")))
  | dict kvs => exact absurd rfl h
theorem kit_bool (d : PyData) (h : tyD d ≠ "dict") : kitB (tyD d) "bool" = some (decide (tyD d = "bool")) := by
  cases d with
  | none => exact (by decide +kernel : kitB "NoneType" "bool" = some (decide ("NoneType" = "bool")))
  | bool b => exact (by decide +kernel : kitB "bool" "bool" = some (decide ("bool" = "bool")))
  | int i => exact (by decide +kernel : kitB "int" "bool" = some (decide ("int" = "bool")))
  | str x => exact (by decide +kernel : kitB "str" "bool" = some (decide ("str" = "bool")))
  | list xs => exact (by decide +kernel : kitB "list" "bool" = some (decide ("list" = "bool")))
  | tuple xs => exact (by decide +kernel : kitB "tuple" "bool" = some (decide ("tuple" = "bool")))
  | dict kvs => exact absurd rfl h
theorem kit_list (d : PyData) (h : tyD d ≠ "dict") : kitB (tyD d) "list" = some (decide (tyD d = "list")) := by
  cases d with
  | none => exact (by decide +kernel : kitB "NoneType" "list" = some (decide ("NoneType" = "list")))
  | bool b => exact (by decide +kernel : kitB "bool" "list" = some (decide ("bool" = "list")))
  | int i => exact (by decide +kernel : kitB "int" "list" = some (decide ("int" = "list")))
  | str x => exact (by decide +kernel : kitB "str" "list" = some (decide ("str" = "list")))
  | list xs => exact (by decide +kernel : kitB "list" "list" = some (decide ("list" = "list")))
  | tuple xs => exact (by decide +kernel : kitB "tuple" "list" = some (decide ("tuple" = "list")))
  | dict kvs => exact absurd rfl h
theorem kit_tuple (d : PyData) (h : tyD d ≠ "dict") : kitB (tyD d) "tuple" = some (decide (tyD d = "tuple")) := by
  cases d with
  | none => exact (by decide +kernel : kitB "NoneType" "tuple" = some (decide ("NoneType" = "tuple")))
  | bool b => exact (by decide +kernel : kitB "bool" "tuple" = some (decide ("bool" = "tuple")))
  | int i => exact (by decide +kernel : kitB "int" "tuple" = some (decide ("int" = "tuple")))
  | str x => exact (by decide +kernel : kitB "str" "tuple" = some (decide ("str" = "tuple")))
  | list xs => exact (by decide +kernel : kitB "list" "tuple" = some (decide ("list" = "tuple")))
  | tuple xs => exact (by decide +kernel : kitB "tuple" "tuple" = some (decide ("tuple" = "tuple")))
  | dict kvs => exact absurd rfl h
theorem Da.nodict {K : PySem.W.Frag} {H : Hp} {v : V} {d : PyData} (h : Da K H v d) : tyD d ≠ "dict" := by
  cases h with
  | non => exact (by decide : ("NoneType" : String) ≠ "dict")
  | bl b => exact (by decide : ("bool" : String) ≠ "dict")
  | int i => exact (by decide : ("int" : String) ≠ "dict")
  | str x => exact (by decide : ("str" : String) ≠ "dict")
  | lst _ _ _ => exact (by decide : ("list" : String) ≠ "dict")
  | tup _ _ _ => exact (by decide : ("tuple" : String) ≠ "dict")
end Th
namespace Th
open PySem PySem.Spec PyProof.Rows L2
/-! ### a def that stands at a name of the text and keeps a promise -/
/-- the built-in names are still the built-ins -/
structure Zs (mg : Str → Option Value) : Prop where
  len_ : mg "len" = none
  range_ : mg "range" = none
  int_ : mg "int" = none
  abs_ : mg "abs" = none
  isinstance_ : mg "isinstance" = none
  all_ : mg "all" = none
  any_ : mg "any" = none
  sorted_ : mg "sorted" = none
  set_ : mg "set" = none
  list_ : mg "list" = none
  tuple_ : mg "tuple" = none
  str_ : mg "str" = none
  bool_ : mg "bool" = none
  enumerate_ : mg "enumerate" = none
  min_ : mg "min" = none
  max_ : mg "max" = none
def At (K : PySem.W.Frag) (mg : Str → Option Value) (x : Str) (st : Stmt) (ps : List Str) : Prop :=
  ∃ (f : Addr) (fd : FuncData), Fun K x x st f fd ∧ mg x = some (.ref f) ∧ Binds K fd ps []
def Has (P : Program) (w : World) (K : PySem.W.Frag) (mg : Str → Option Value) (base : Heap) (x : Str) (st : Stmt) (k : Nat) (ps : List Str) (sp : Sp) : Prop :=
  ∃ (f : Addr) (fd : FuncData), FnOk P w K mg base CX0 k f fd ps sp ∧ mg x = some (.ref f) ∧ PySem.W.keepIn K (.ref f) = true ∧ Binds K fd ps [] ∧ Fun K x x st f fd
theorem kb_of {K : PySem.W.Frag} {x qual : Str} {st : Stmt} {f : Addr} {fd : FuncData} {ps ks : List Str} {g : List Value → List Value → List Value} {gV : List V → List V → List V} (F : Fun K x qual st f fd)
    (hrel : ∀ {vs : List V} {us : List Value} {zs : List V} {ws : List Value}, Vals vs us → Vals zs ws → Vals (gV vs zs) (g us ws))
    (h : ∀ (kV doc pm : Value) (an : Option Addr) (cdv ct : Value) (us ws : List Value), (g us ws).length = ps.length → bindArgs (PySem.W.fnOf x qual (defArgs st) (defBody st) (defScope st) .none kV doc pm an cdv ct) ⟨us, ks.zip ws⟩ = pure (ps.zip (g us ws))) :
    KBinds K fd ps ks g gV := by
  obtain ⟨oc, od, kV, doc, pm, an, cdv, ct, osl, rfl, lk, hcd⟩ := F.ex
  exact ⟨fun s us ws X hl => .of_eq (h kV doc pm an cdv ct us ws hl), fun r1 r2 => hrel r1 r2⟩
/-- one argument, by its name -/
def g1 {α : Type} : List α → List α → List α
  | [], [a] => [a]
  | _, _ => []
theorem g1_rel {vs : List V} {us : List Value} {zs : List V} {ws : List Value} (r1 : Vals vs us) (r2 : Vals zs ws) : Vals (g1 vs zs) (g1 us ws) := by
  cases r1 with
  | nil =>
    cases r2 with
    | nil => exact .nil
    | cons r r2 =>
      cases r2 with
      | nil => exact .cons r .nil
      | cons _ _ => exact .nil
  | cons _ _ =>
    cases r2 <;> exact .nil
/-- two arguments by their names, in the other order -/
def g2 {α : Type} : List α → List α → List α
  | [], [a, b] => [b, a]
  | _, _ => []
theorem g2_rel {vs : List V} {us : List Value} {zs : List V} {ws : List Value} (r1 : Vals vs us) (r2 : Vals zs ws) : Vals (g2 vs zs) (g2 us ws) := by
  cases r1 with
  | nil =>
    cases r2 with
    | nil => exact .nil
    | cons r r2 =>
      cases r2 with
      | nil => exact .nil
      | cons q r3 =>
        cases r3 with
        | nil => exact .cons q (.cons r .nil)
        | cons _ _ => exact .nil
  | cons _ _ =>
    cases r2 <;> exact .nil

/-! ### small facts of lists -/
theorem cut_none (xs : List V) (h : xs.length ≤ 63) : cutV xs none (some 63) = xs := by
  unfold cutV
  rw [HT.sIx_none, show HT.sIx xs.length xs.length (some 63) = min 63 xs.length from HT.sIx_nat xs.length xs.length 63]
  show List.take (min 63 xs.length - 0) (List.drop 0 xs) = xs
  rw [List.drop_zero, Nat.sub_zero, Nat.min_eq_right h, List.take_length]
theorem getmap {α β : Type} {f : α → β} {l : List α} {i : Nat} {y : β} (h : (l.map f)[i]? = some y) : ∃ x, l[i]? = some x ∧ f x = y := by
  rw [List.getElem?_map] at h
  cases e : l[i]? with
  | none =>
    rw [e] at h
    cases h
  | some x =>
    rw [e] at h
    exact ⟨x, rfl, Option.some.inj h⟩
theorem lt_of_get {α : Type} {l : List α} {i : Nat} {y : α} (h : l[i]? = some y) : i < l.length := (List.getElem?_eq_some_iff.mp h).1
theorem sline {n : Nat} (h : n ≤ 100000) : n ≤ sizeLine := Nat.le_trans h (by decide)
theorem slineL {n : Nat} (h : n < 100000) : n < sizeLine := Nat.lt_of_lt_of_le h (by decide)
theorem take_succ_map {α β : Type} {f : α → β} {l : List α} {i : Nat} {x : α} (h : l[i]? = some x) : ((l.take (i + 1)).map f) = (l.take i).map f ++ [f x] := by
  rw [List.take_add_one, h, List.map_append]
  rfl
theorem atI_of {xs : List V} {i : Int} {v : V} (h0 : 0 ≤ i) (h : xs[i.toNat]? = some v) : atI xs i = some v := by
  have e : i = ((i.toNat : Nat) : Int) := by omega
  rw [e]
  exact atI_nat h
end Th
namespace Th
def sgE (a b k : Nat) : Nat := (a + b * k % 26) % 26 + 26 * (k / 26)
theorem sgE_nodup : ∀ a, a < 26 → ∀ b ∈ [1, 3, 5, 7, 9, 11, 25], ((List.range 40).map (sgE a b)).Nodup := by decide +kernel
end Th
/-! texts and names -/
namespace Th
open PySem PySem.Spec PyProof.Rows L2
theorem nodup_at {α : Type} {l : List α} (h : l.Nodup) {i j : Nat} {x : α} (hi : l[i]? = some x) (hj : l[j]? = some x) : i = j := by
  obtain ⟨li, ei⟩ := List.getElem?_eq_some_iff.mp hi
  obtain ⟨lj, ej⟩ := List.getElem?_eq_some_iff.mp hj
  have q := List.pairwise_iff_getElem.mp h
  rcases Nat.lt_trichotomy i j with z | z | z
  · exact absurd (ei.trans ej.symm) (q i j li lj z)
  · exact z
  · exact absurd (ej.trans ei.symm) (q j i lj li z)
theorem nodup_sub {α : Type} [DecidableEq α] : ∀ {l m : List α}, l.Nodup → (∀ x ∈ l, x ∈ m) → l.length ≤ m.length
  | [], _, _, _ => Nat.zero_le _
  | x :: r, m, h, k => by
    obtain ⟨h1, h2⟩ := List.nodup_cons.mp h
    have hx := k x List.mem_cons_self
    have q : r.length ≤ (m.erase x).length := nodup_sub h2 fun y hy => by
      have ne : y ≠ x := fun e => h1 (e ▸ hy)
      exact (List.mem_erase_of_ne ne).mpr (k y (List.mem_cons_of_mem _ hy))
    rw [List.length_erase_of_mem hx] at q
    have p := List.length_pos_of_mem hx
    rw [List.length_cons]
    omega
def cs (x : Str) : List Nat := x.cps.toList
theorem cs_len (x : Str) : x.length = (cs x).length := (Array.length_toList).symm
theorem cs_inj {x y : Str} (h : cs x = cs y) : x = y := by
  cases x
  cases y
  exact congrArg Str.mk (Array.toList_inj.mp h)
theorem cs_app (x y : Str) : cs (x ++ y) = cs x ++ cs y := by
  show (x.cps ++ y.cps).toList = _
  rw [Array.toList_append]
  rfl
theorem cs_mk (l : List Nat) : cs ⟨l.toArray⟩ = l := rfl
theorem cs_join : ∀ ys : List Str, cs (Str.join Str.empty ys) = (ys.map cs).flatten
  | [] => rfl
  | [x] => by simp [Str.join]
  | x :: y :: r => by
    show cs (x ++ Str.empty ++ Str.join Str.empty (y :: r)) = _
    rw [cs_app, cs_app, cs_join (y :: r)]
    show cs x ++ [] ++ _ = _
    rw [List.append_nil]
    rfl
/-- the small letters -/
def abc : Str := "abcdefghijklmnopqrstuvwxyz"
theorem abc_len : (cs abc).length = 26 := by decide +kernel
theorem abc_nodup : (cs abc).Nodup := by decide +kernel
theorem abc_length : abc.length = 26 := by decide +kernel
/-- all signs are small letters -/
def Lw (x : Str) : Prop := ∀ c ∈ cs x, c ∈ cs abc
theorem Lw.app {x y : Str} (h : Lw x) (k : Lw y) : Lw (x ++ y) := fun c hc => by
  rw [cs_app] at hc
  rcases List.mem_append.mp hc with z | z
  · exact h c z
  · exact k c z
theorem Lw.sub {x y : Str} (h : Lw x) (k : ∀ c ∈ cs y, c ∈ cs x) : Lw y := fun c hc => h c (k c hc)
/-- a name -/
def isNm (x : Str) : Bool := decide (1 ≤ x.length) && decide (x.length ≤ 6) && (cs x).all fun c => decide (c ∈ cs abc)
theorem isNm_iff {x : Str} : isNm x = true ↔ 1 ≤ x.length ∧ x.length ≤ 6 ∧ Lw x := by
  unfold isNm
  rw [Bool.and_eq_true, Bool.and_eq_true, decide_eq_true_eq, decide_eq_true_eq, List.all_eq_true]
  constructor
  · rintro ⟨⟨a, b⟩, c⟩
    exact ⟨a, b, fun z hz => of_decide_eq_true (c z hz)⟩
  · rintro ⟨a, b, c⟩
    exact ⟨⟨a, b⟩, fun z hz => decide_eq_true (c z hz)⟩
theorem isNm_len {x : Str} (h : isNm x = true) : x.length ≤ 6 := (isNm_iff.mp h).2.1
/-- the k-th letter -/
def let_ (k : Nat) : Nat := (cs abc).getD k 0
theorem let_at {k : Nat} (h : k < 26) : (cs abc)[k]? = some (let_ k) := by
  have h' : k < (cs abc).length := by rw [abc_len]; exact h
  unfold let_
  rw [List.getD_eq_getElem?_getD, List.getElem?_eq_getElem h']
  rfl
theorem let_mem {k : Nat} (h : k < 26) : let_ k ∈ cs abc := List.mem_of_getElem? (let_at h)
theorem let_inj {i j : Nat} (hi : i < 26) (hj : j < 26) (h : let_ i = let_ j) : i = j := by
  have a := let_at hi
  have b := let_at hj
  rw [h] at a
  exact nodup_at abc_nodup a b
theorem atI_of' {xs : List Nat} {i : Int} {v : Nat} (h0 : 0 ≤ i) (h : xs[i.toNat]? = some v) : atI xs i = some v := by
  have e : i = ((i.toNat : Nat) : Int) := by omega
  rw [e]
  exact atI_nat h
theorem atI_let {k : Int} (h0 : 0 ≤ k) (h1 : k < 26) : atI abc.cps.toList k = some (let_ k.toNat) := atI_of' (xs := (cs abc)) h0 (let_at (by omega))
theorem sline_abc : abc.length ≤ sizeLine := by rw [abc_length]; decide
theorem sqh {K : PySem.W.Frag} {p q : Addr} {H : Hp} {xs : List V} (z : q ≠ p) (h : H q = some (.lst xs)) : SqL K (hid p H) q xs := .inl (.inl (by rw [hid_ne z]; exact h))
theorem sqhT {K : PySem.W.Frag} {p q : Addr} {H : Hp} {xs : List V} (z : q ≠ p) (h : H q = some (.tup xs)) : SqT K (hid p H) q xs := .inl (.inl (by rw [hid_ne z]; exact h))
theorem flatS (xs : List Str) : (xs.map V.str).all flatV = true := by
  rw [List.all_map, List.all_eq_true]
  exact fun _ _ => rfl
theorem inS (x : Str) (xs : List Str) : inV (.str x) (xs.map V.str) = decide (x ∈ xs) := by
  unfold inV
  rw [List.any_map, Bool.eq_iff_iff, List.any_eq_true, decide_eq_true_eq]
  constructor
  · rintro ⟨y, hy, e⟩
    have e' : y = x := beq_iff_eq.mp (show (y == x) = true from e)
    rw [← e']
    exact hy
  · intro hx
    exact ⟨x, hx, beq_self_eq_true x⟩
/-- len of a list or a tuple, by values -/
def rLn (K : PySem.W.Frag) : List V → Hp → VK → Prop := fun xs H Q => ∃ p ys, xs = [.ref p] ∧ (SqL K H p ys ∨ SqT K H p ys) ∧ Q (.int ys.length) H
theorem len_seqK {X : Cx} : CallR X (.builtin "len") (rLn X.K) := call_len_seq
theorem ixe (a b i : Nat) : ((a : Int) + ((b : Int) * ((0 : Int) + (i : Int))) % 26) % 26 = (((a + b * i % 26) % 26 : Nat) : Int) := by
  have e : (b : Int) * ((0 : Int) + (i : Int)) = ((b * i : Nat) : Int) := by rw [Int.zero_add, Int.natCast_mul]
  rw [e]
  omega
theorem stride_of {i : Nat} {v : V} (h : [V.int 1, .int 3, .int 5, .int 7, .int 9, .int 11, .int 25][i]? = some v) : ∃ b : Nat, b ∈ [1, 3, 5, 7, 9, 11, 25] ∧ b ≤ 25 ∧ v = .int (b : Int) := by
  have m := List.mem_of_getElem? h
  simp only [List.mem_cons, List.not_mem_nil, or_false] at m
  rcases m with e | e | e | e | e | e | e
  · exact ⟨1, by decide, by decide, e⟩
  · exact ⟨3, by decide, by decide, e⟩
  · exact ⟨5, by decide, by decide, e⟩
  · exact ⟨7, by decide, by decide, e⟩
  · exact ⟨9, by decide, by decide, e⟩
  · exact ⟨11, by decide, by decide, e⟩
  · exact ⟨25, by decide, by decide, e⟩
/-- the first letters of the signs -/
def sg1 (a b k : Nat) : Str := ⟨#[let_ ((a + b * k % 26) % 26)]⟩
theorem mapr {α : Type} (f : Nat → α) (n : Nat) : (List.range (n + 1)).map f = (List.range n).map f ++ [f n] := by
  rw [List.range_succ, List.map_append]
  rfl
theorem getr {α : Type} (f : Nat → α) {n k : Nat} (h : k < n) : ((List.range n).map f)[k]? = some (f k) := by
  rw [List.getElem?_map, List.getElem?_range h]
  rfl
def strV (v : V) : Str := match v with | .str x => x | _ => Str.empty
theorem perm_strs {ys : List V} {xs : List Str} (h : ys.Perm (xs.map V.str)) : ∃ zs : List Str, ys = zs.map V.str ∧ zs.Perm xs := by
  refine ⟨ys.map strV, ?_, ?_⟩
  · rw [List.map_map]
    refine (List.map_id ys).symm.trans (List.map_congr_left fun v hv => ?_)
    obtain ⟨x, _, rfl⟩ := List.mem_map.mp (h.mem_iff.mp hv)
    rfl
  · have q := h.map strV
    rw [List.map_map] at q
    have e : xs.map (strV ∘ V.str) = xs := (List.map_congr_left fun _ _ => rfl).trans (List.map_id xs)
    rw [e] at q
    exact q
theorem cut_to {n : Int} (xs : List V) (h : 0 ≤ n) : cutV xs none (some n) = xs.take n.toNat := by
  have e : n = ((n.toNat : Nat) : Int) := by omega
  unfold cutV
  rw [HT.sIx_none, e, HT.sIx_nat, List.drop_zero, Nat.sub_zero, Int.toNat_natCast, Nat.min_def]
  split
  · rfl
  · rw [List.take_length, List.take_of_length_le (by omega)]
/-! slices of texts -/
theorem cs_cut (z : Str) (lo hi : Option Int) : cs (cutS z lo hi) = ((cs z).drop (HT.sIx z.length 0 lo)).take (HT.sIx z.length z.length hi - HT.sIx z.length 0 lo) := rfl
theorem cs_cut_to (z : Str) (n : Int) (h : 0 ≤ n) : cs (cutS z none (some n)) = (cs z).take n.toNat := by
  have e : n = ((n.toNat : Nat) : Int) := by omega
  rw [cs_cut, HT.sIx_none, e, HT.sIx_nat, List.drop_zero, Nat.sub_zero, Int.toNat_natCast, Nat.min_def]
  split
  · rfl
  · rename_i hn
    rw [cs_len, List.take_length, List.take_of_length_le (by rw [← cs_len]; omega)]
theorem cs_cut_from (z : Str) (n : Int) (h : 0 ≤ n) (h2 : n ≤ z.length) : cs (cutS z (some n) none) = (cs z).drop n.toNat := by
  have e : n = ((n.toNat : Nat) : Int) := by omega
  rw [cs_cut, HT.sIx_none, e, HT.sIx_nat, Int.toNat_natCast, Nat.min_eq_left (by omega)]
  rw [cs_len, ← List.length_drop, List.take_length]
/-! the signs of names: the letter at (first + stride * k % 26) % 26, and a second one from 26 on -/
def sgn (a b : Nat) (k : Nat) : Str := ⟨#[let_ ((a + b * k % 26) % 26)]⟩ ++ (if k < 26 then Str.empty else ⟨#[let_ (k / 26)]⟩)
theorem sgn_cs (a b k : Nat) : cs (sgn a b k) = let_ ((a + b * k % 26) % 26) :: (if k < 26 then [] else [let_ (k / 26)]) := by
  unfold sgn
  rw [cs_app]
  split <;> rfl
theorem sgn_len (a b k : Nat) : (sgn a b k).length = if k < 26 then 1 else 2 := by
  rw [cs_len, sgn_cs]
  split <;> rfl
theorem sgn_lw (a b : Nat) {k : Nat} (h : k < 40) : Lw (sgn a b k) := by
  intro c hc
  rw [sgn_cs] at hc
  rcases List.mem_cons.mp hc with z | z
  · rw [z]
    exact let_mem (Nat.mod_lt _ (by decide))
  · split at z
    · cases z
    · rw [List.mem_singleton.mp z]
      exact let_mem (by omega)
theorem sgn_inj {a b i j : Nat} (ha : a < 26) (hb : b ∈ [1, 3, 5, 7, 9, 11, 25]) (hi : i < 40) (hj : j < 40) (h : sgn a b i = sgn a b j) : i = j := by
  have e : sgE a b i = sgE a b j := by
    have q := congrArg cs h
    rw [sgn_cs, sgn_cs] at q
    injection q with q1 q2
    have q3 := let_inj (Nat.mod_lt _ (by decide)) (Nat.mod_lt _ (by decide)) q1
    unfold sgE
    rw [q3]
    have q4 : i / 26 = j / 26 := by
      by_cases h1 : i < 26
      · by_cases h2 : j < 26
        · omega
        · rw [if_pos h1, if_neg h2] at q2
          cases q2
      · by_cases h2 : j < 26
        · rw [if_neg h1, if_pos h2] at q2
          cases q2
        · rw [if_neg h1, if_neg h2] at q2
          injection q2 with q5
          exact let_inj (by omega) (by omega) q5
    rw [q4]
  have nd := sgE_nodup a ha b hb
  have g1 : ((List.range 40).map (sgE a b))[i]? = some (sgE a b i) := by
    rw [List.getElem?_map, List.getElem?_range hi]
    rfl
  have g2 : ((List.range 40).map (sgE a b))[j]? = some (sgE a b j) := by
    rw [List.getElem?_map, List.getElem?_range hj]
    rfl
  rw [e] at g1
  exact nodup_at nd g1 g2
def sgns (a b n : Nat) : List Str := (List.range n).map (sgn a b)
theorem sgns_nodup {a b n : Nat} (ha : a < 26) (hb : b ∈ [1, 3, 5, 7, 9, 11, 25]) (hn : n ≤ 40) : (sgns a b n).Nodup := by
  unfold sgns
  rw [List.Nodup, List.pairwise_map]
  refine List.Pairwise.imp_of_mem ?_ List.nodup_range
  intro i j hi hj hne e
  exact hne (sgn_inj ha hb (by have := List.mem_range.mp hi; omega) (by have := List.mem_range.mp hj; omega) e)
theorem sgns_len (a b n : Nat) : (sgns a b n).length = n := by
  unfold sgns
  rw [List.length_map, List.length_range]
theorem sgns_mem {a b n : Nat} {x : Str} (hn : n ≤ 40) (h : x ∈ sgns a b n) : 1 ≤ x.length ∧ x.length ≤ 2 ∧ Lw x := by
  obtain ⟨k, hk, rfl⟩ := List.mem_map.mp h
  have hk' : k < n := List.mem_range.mp hk
  rw [sgn_len]
  refine ⟨?_, ?_, sgn_lw a b (by omega)⟩
  · split <;> omega
  · split <;> omega
/-- the words that stand in texts too -/
def kno : List Str := ["find", "finds", "word", "fact", "before", "first", "last", "lot", "never", "all", "rest", "self"]
theorem kno_nodup : kno.Nodup := by decide +kernel
theorem kno_ok : ∀ x ∈ kno, isNm x = true ∧ 3 ≤ x.length := by decide +kernel
theorem kno_len : kno.length = 12 := rfl
/-- names: each once -/
def Nms (xs : List Str) : Prop := xs.Nodup ∧ ∀ x ∈ xs, isNm x = true
theorem nms_known {ys : List Str} {a b n : Nat} (ha : a < 26) (hb : b ∈ [1, 3, 5, 7, 9, 11, 25]) (hn : n ≤ 40) (h : ys.Perm kno) (m : Nat) : Nms ((ys ++ sgns a b n).take m) := by
  have nd : (ys ++ sgns a b n).Nodup := by
    rw [List.nodup_append]
    refine ⟨h.nodup_iff.mpr kno_nodup, sgns_nodup ha hb hn, fun x hx y hy e => ?_⟩
    have q1 := (kno_ok x (h.mem_iff.mp hx)).2
    have q2 := (sgns_mem hn hy).2.1
    rw [e] at q1
    omega
  refine ⟨nd.sublist (List.take_sublist _ _), fun x hx => ?_⟩
  rcases List.mem_append.mp (List.mem_of_mem_take hx) with z | z
  · exact (kno_ok x (h.mem_iff.mp z)).1
  · obtain ⟨q1, q2, q3⟩ := sgns_mem hn z
    exact isNm_iff.mpr ⟨q1, by omega, q3⟩
/-- names by a stem around a sign -/
def stm (w : Str) (i : Nat) (s : Str) : Str := ⟨((cs w).take i).toArray⟩ ++ s ++ ⟨((cs w).drop i).toArray⟩
theorem stm_cs (w : Str) (i : Nat) (s : Str) : cs (stm w i s) = (cs w).take i ++ cs s ++ (cs w).drop i := by
  unfold stm
  rw [cs_app, cs_app]
  rfl
theorem stm_eq {w s : Str} {i : Int} (h0 : 0 ≤ i) (h1 : i ≤ w.length) : cutS w none (some i) ++ s ++ cutS w (some i) none = stm w i.toNat s := by
  refine cs_inj ?_
  rw [cs_app, cs_app, cs_cut_to _ _ h0, cs_cut_from _ _ h0 h1, stm_cs]
theorem nms_stem {w : Str} {i a b n : Nat} (hw : Lw w) (hl : w.length ≤ 4) (ha : a < 26) (hb : b ∈ [1, 3, 5, 7, 9, 11, 25]) (hn : n ≤ 40) : Nms ((sgns a b n).map (stm w i)) := by
  refine ⟨?_, fun x hx => ?_⟩
  · rw [List.Nodup, List.pairwise_map]
    refine List.Pairwise.imp ?_ (sgns_nodup ha hb hn)
    intro x y hne e
    have q := congrArg cs e
    rw [stm_cs, stm_cs] at q
    exact hne (cs_inj (List.append_cancel_left (List.append_cancel_right q)))
  · obtain ⟨s, hs, rfl⟩ := List.mem_map.mp hx
    obtain ⟨q1, q2, q3⟩ := sgns_mem hn hs
    rw [cs_len] at q1 q2 hl
    refine isNm_iff.mpr ⟨?_, ?_, fun c hc => ?_⟩
    · rw [cs_len, stm_cs, List.length_append, List.length_append]; omega
    · rw [cs_len, stm_cs, List.length_append, List.length_append, List.length_take, List.length_drop]; omega
    · rw [stm_cs] at hc
      rcases List.mem_append.mp hc with z | z
      · rcases List.mem_append.mp z with z | z
        · exact hw c (List.mem_of_mem_take z)
        · exact q3 c z
      · exact hw c (List.mem_of_mem_drop z)
theorem nm_word {x : Str} (h : Lw x) (h1 : 1 ≤ x.length) (h2 : (x.length : Int) ≤ 6) : isNm x = true := isNm_iff.mpr ⟨h1, by omega, h⟩
theorem nm_long {x y : Str} (h : isNm x = true) (k : Lw y) : isNm (cutS (x ++ y) none (some 6)) = true := by
  obtain ⟨h1, h2, h3⟩ := isNm_iff.mp h
  have e : cs (cutS (x ++ y) none (some 6)) = (cs (x ++ y)).take 6 := cs_cut_to _ 6 (by decide)
  rw [cs_len] at h1
  refine isNm_iff.mpr ⟨?_, ?_, fun c hc => ?_⟩
  · rw [cs_len, e, List.length_take, cs_app, List.length_append]
    omega
  · rw [cs_len, e, List.length_take]
    omega
  · rw [e] at hc
    exact h3.app k c (List.mem_of_mem_take hc)
/-- one name more -/
theorem Nms.snoc {xs : List Str} {x : Str} (h : Nms xs) (hx : isNm x = true) (n : x ∉ xs) : Nms (xs ++ [x]) := by
  refine ⟨?_, fun y hy => ?_⟩
  · rw [List.nodup_append]
    exact ⟨h.1, List.pairwise_singleton _ _, fun a ha b hb e => n (by rw [← List.mem_singleton.mp hb, ← e]; exact ha)⟩
  · rcases List.mem_append.mp hy with z | z
    · exact h.2 y z
    · rw [List.mem_singleton.mp z]
      exact hx
/-- a sign is left while there are fewer names than signs -/
theorem spare_left {xs ss : List Str} (h : ss.Nodup) (hl : xs.length < ss.length) : ∃ s r, ss.filter (fun s => !decide (s ∈ xs)) = s :: r := by
  cases e : ss.filter (fun s => !decide (s ∈ xs)) with
  | cons s r => exact ⟨s, r, rfl⟩
  | nil =>
    exfalso
    have all : ∀ s ∈ ss, s ∈ xs := fun s hs => by
      have q := List.filter_eq_nil_iff.mp e s hs
      simpa using q
    have sub := nodup_sub h all
    omega
end Th
/-! data that is written in the text, and data judged -/
namespace Th
open PySem PySem.Spec PyProof.Rows L2
def Lit (K : PySem.W.Frag) (t : TE) (d : PyData) : Prop := ∀ (D : DS) (σ : L2.St) (H : Hp) (Q : VK), Drw D H → (∀ v H', Go D H H' → Da K (hid D.p H') v d → Q v H') → t σ H Q
def LitA (K : PySem.W.Frag) (t : TA) (ds : List PyData) : Prop := ∀ (D : DS) (σ : L2.St) (H : Hp) (Q : List V → Hp → Prop), Drw D H → (∀ vs H', Go D H H' → DaAll K (hid D.p H') vs ds → Q vs H') → t σ H Q
section
variable {K : PySem.W.Frag}
theorem lit_non : Lit K (tC .non) .none := fun D σ H Q d q => q _ H (.refl d) .non
theorem lit_bl (b : Bool) : Lit K (tC (.bl b)) (.bool b) := fun D σ H Q d q => q _ H (.refl d) (.bl b)
theorem lit_int (i : Int) : Lit K (tC (.int i)) (.int i) := fun D σ H Q d q => q _ H (.refl d) (.int i)
theorem lit_neg (i : Int) : Lit K (tUn (rU fun i => .int (-i)) (tC (.int i))) (.int (-i)) := fun D σ H Q d q => ⟨i, rfl, q _ H (.refl d) (.int (-i))⟩
theorem lit_str (x : Str) : Lit K (tC (.str x)) (.str x) := fun D σ H Q d q => q _ H (.refl d) (.str x)
theorem lita_nil : LitA K tNil [] := fun D σ H Q d q => q _ H (.refl d) .nil
theorem lita_cons {t : TE} {d : PyData} {ta : TA} {ds : List PyData} (h : Lit K t d) (r : LitA K ta ds) : LitA K (tCons t ta) (d :: ds) := fun D σ H Q dr q =>
  h D σ H _ dr fun v H1 g1 h1 => r D σ H1 _ g1.st fun vs H2 g2 h2 => q _ H2 (g1.trans g2) (.cons (h1.to g2.sm) h2)
theorem lit_tup {ta : TA} {ds : List PyData} (h : LitA K ta ds) (hl : ds.length ≤ 100000) : Lit K (tTup ta) (.tuple ds) := fun D σ H Q dr q =>
  h D σ H _ dr fun vs H1 g1 h1 => ⟨sline (by rw [h1.len]; exact hl), fun p np => by
    have z := g1.st.ne_new np
    have g2 := g1.new (o := .tup vs) np
    refine q _ _ g2 (Da.newT (by rw [hid_ne z]; exact upd_same) (h1.to (Go.of g1.st (same_new np)).sm))⟩
theorem lit_lst {ta : TA} {ds : List PyData} (h : LitA K ta ds) (hl : ds.length ≤ 100000) : Lit K (tLst ta) (.list ds) := fun D σ H Q dr q =>
  h D σ H _ dr fun vs H1 g1 h1 => ⟨sline (by rw [h1.len]; exact hl), fun p np => by
    have z := g1.st.ne_new np
    have g2 := g1.new (o := .lst vs) np
    refine q _ _ g2 (Da.newL (by rw [hid_ne z]; exact upd_same) (h1.to (Go.of g1.st (same_new np)).sm))⟩
/-- the datum that an expression of constants, tuples and lists writes -/
def litE : Nat → Expr → Option PyData
  | _, .Constant .none _ _ => some .none
  | _, .Constant (.bool b) _ _ => some (.bool b)
  | _, .Constant (.int i) _ _ => some (.int i)
  | _, .Constant (.str x) _ _ => some (.str x)
  | _, .UnaryOp .USub (.Constant (.int i) _ _) _ => some (.int (-i))
  | n + 1, .Tuple es _ _ => (litEs (litE n) es).bind fun ds => if ds.length ≤ 1000 then some (.tuple ds) else none
  | n + 1, .List es _ => (litEs (litE n) es).bind fun ds => if ds.length ≤ 1000 then some (.list ds) else none
  | _, _ => none
where litEs (f : Expr → Option PyData) : List Expr → Option (List PyData)
  | [] => some []
  | e :: es => (f e).bind fun d => (litEs f es).map (d :: ·)
def NoStar (X : Cx) (e : Expr) : Prop := ∀ es, starEach (e :: es) X.env = (false, eval e X.env) :: starEach es X.env
theorem litEs_ok {X : Cx} {f : Expr → Option PyData} (hf : ∀ e d, f e = some d → ∃ t, PE X e t ∧ Lit K t d ∧ NoStar X e) : ∀ (es : List Expr) (ds : List PyData), litE.litEs f es = some ds → ∃ t, PA X es t ∧ LitA K t ds
  | [], ds, h => by
    cases h
    exact ⟨_, pa_nil, lita_nil⟩
  | e :: es, ds, h => by
    unfold litE.litEs at h
    cases h1 : f e with
    | none =>
      rw [h1] at h
      cases h
    | some d =>
      rw [h1] at h
      cases h2 : litE.litEs f es with
      | none =>
        rw [h2] at h
        cases h
      | some r =>
        rw [h2] at h
        cases h
        obtain ⟨t, a1, a2, a3⟩ := hf e d h1
        obtain ⟨u, b1, b2⟩ := litEs_ok hf es r h2
        exact ⟨_, pa_cons a1 b1 (a3 es), lita_cons a2 b2⟩
theorem litE_ok {X : Cx} : ∀ (n : Nat) (e : Expr) (d : PyData), litE n e = some d → ∃ t, PE X e t ∧ Lit K t d ∧ NoStar X e := by
  intro n
  induction n with
  | zero =>
    intro e d h
    unfold litE at h
    split at h
    · cases h; exact ⟨_, pe_non, lit_non, fun _ => rfl⟩
    · cases h; exact ⟨_, pe_bl, lit_bl _, fun _ => rfl⟩
    · cases h; exact ⟨_, pe_int, lit_int _, fun _ => rfl⟩
    · cases h; exact ⟨_, pe_str, lit_str _, fun _ => rfl⟩
    · cases h; exact ⟨_, pe_un un_neg pe_int, lit_neg _, fun _ => rfl⟩
    all_goals first | (exfalso; omega) | cases h
  | succ n ih =>
    intro e d h
    unfold litE at h
    split at h
    · cases h; exact ⟨_, pe_non, lit_non, fun _ => rfl⟩
    · cases h; exact ⟨_, pe_bl, lit_bl _, fun _ => rfl⟩
    · cases h; exact ⟨_, pe_int, lit_int _, fun _ => rfl⟩
    · cases h; exact ⟨_, pe_str, lit_str _, fun _ => rfl⟩
    · cases h; exact ⟨_, pe_un un_neg pe_int, lit_neg _, fun _ => rfl⟩
    · rename_i m es x1 p he
      obtain rfl := Nat.succ.inj he
      cases h1 : litE.litEs (litE n) es with
      | none => rw [h1] at h; cases h
      | some ds =>
        rw [h1] at h
        simp only [Option.bind_some] at h
        split at h
        · cases h
          obtain ⟨t, b1, b2⟩ := litEs_ok ih es ds h1
          exact ⟨_, pe_tup b1, lit_tup b2 (by omega), fun _ => rfl⟩
        · cases h
    · rename_i m es p he
      obtain rfl := Nat.succ.inj he
      cases h1 : litE.litEs (litE n) es with
      | none => rw [h1] at h; cases h
      | some ds =>
        rw [h1] at h
        simp only [Option.bind_some] at h
        split at h
        · cases h
          obtain ⟨t, b1, b2⟩ := litEs_ok ih es ds h1
          exact ⟨_, pe_lst b1, lit_lst b2 (by omega), fun _ => rfl⟩
        · cases h
    · cases h
/-- what a list of data holds -/
theorem Da.inL {H : Hp} {p : Addr} {ds : List PyData} (h : Da K H (.ref p) (.list ds)) : ∃ xs, SqL K H p xs ∧ DaAll K H xs ds := by
  cases h with
  | lst hs _ ha => exact ⟨_, hs, ha⟩
theorem Da.inT {H : Hp} {p : Addr} {ds : List PyData} (h : Da K H (.ref p) (.tuple ds)) : ∃ xs, SqT K H p xs ∧ DaAll K H xs ds := by
  cases h with
  | tup hs _ ha => exact ⟨_, hs, ha⟩
end
theorem kit_lt {K : PySem.W.Frag} (d : PyData) (h : tyD d ≠ "dict") : PySem.W.kitAny K (.type (tyD d)) [.type "list", .type "tuple"] = some (decide (tyD d = "list" ∨ tyD d = "tuple")) := by
  by_cases e1 : tyD d = "list"
  · refine kitAny_cons (kit_ty (kit_list d h)) (fun z => ?_) (fun _ => ?_)
    · rw [decide_eq_true e1] at z
      cases z
    · exact decide_eq_true (.inl e1)
  · refine kitAny_cons (kit_ty (kit_list d h)) (fun _ => ?_) (fun z => absurd (of_decide_eq_true z) e1)
    refine kitAny_cons (kit_ty (kit_tuple d h)) (fun z => ?_) (fun z => decide_eq_true (.inr (of_decide_eq_true z)))
    rw [kitAny_nil, decide_eq_false]
    rintro (q | q)
    · exact e1 q
    · exact of_decide_eq_false z q
/-- depth below n, sizes small -/
def Lv : Nat → PyData → Prop
  | _, .none => True
  | _, .bool _ => True
  | _, .int _ => True
  | _, .str x => x.length ≤ 100000 ∧ PyData.strOk x = true
  | 0, .list _ => False
  | 0, .tuple _ => False
  | n + 1, .list xs => xs.length ≤ 60 ∧ ∀ x ∈ xs, Lv n x
  | n + 1, .tuple xs => xs.length ≤ 60 ∧ ∀ x ∈ xs, Lv n x
  | _, .dict _ => False
def lvB : Nat → PyData → Bool
  | _, .none => true
  | _, .bool _ => true
  | _, .int _ => true
  | _, .str x => decide (x.length ≤ 100000) && PyData.strOk x
  | 0, .list _ => false
  | 0, .tuple _ => false
  | n + 1, .list xs => decide (xs.length ≤ 60) && xs.all (lvB n)
  | n + 1, .tuple xs => decide (xs.length ≤ 60) && xs.all (lvB n)
  | _, .dict _ => false
theorem lv_of : ∀ (n : Nat) (d : PyData), lvB n d = true → Lv n d
  | 0, .none, _ => trivial
  | 0, .bool _, _ => trivial
  | 0, .int _, _ => trivial
  | 0, .str x, h => by
    obtain ⟨a, b⟩ := Bool.and_eq_true_iff.mp h
    exact ⟨of_decide_eq_true a, b⟩
  | 0, .list _, h => nomatch h
  | 0, .tuple _, h => nomatch h
  | 0, .dict _, h => nomatch h
  | n + 1, .none, _ => trivial
  | n + 1, .bool _, _ => trivial
  | n + 1, .int _, _ => trivial
  | n + 1, .str x, h => by
    obtain ⟨a, b⟩ := Bool.and_eq_true_iff.mp h
    exact ⟨of_decide_eq_true a, b⟩
  | n + 1, .list xs, h => by
    obtain ⟨a, b⟩ := Bool.and_eq_true_iff.mp h
    exact ⟨of_decide_eq_true a, fun x hx => lv_of n x (List.all_eq_true.mp b x hx)⟩
  | n + 1, .tuple xs, h => by
    obtain ⟨a, b⟩ := Bool.and_eq_true_iff.mp h
    exact ⟨of_decide_eq_true a, fun x hx => lv_of n x (List.all_eq_true.mp b x hx)⟩
  | n + 1, .dict _, h => nomatch h
theorem Lv.up : ∀ (n : Nat) (d : PyData), Lv n d → Lv (n + 1) d
  | 0, .none, _ => trivial
  | 0, .bool _, _ => trivial
  | 0, .int _, _ => trivial
  | 0, .str x, h => h
  | 0, .list _, h => h.elim
  | 0, .tuple _, h => h.elim
  | 0, .dict _, h => h.elim
  | n + 1, .none, _ => trivial
  | n + 1, .bool _, _ => trivial
  | n + 1, .int _, _ => trivial
  | n + 1, .str x, h => h
  | n + 1, .list xs, h => ⟨h.1, fun x hx => Lv.up n x (h.2 x hx)⟩
  | n + 1, .tuple xs, h => ⟨h.1, fun x hx => Lv.up n x (h.2 x hx)⟩
  | n + 1, .dict _, h => h.elim
mutual
theorem Lv.shape : ∀ (n : Nat) (d : PyData), Lv n d → d.canLay0 = true ∧ d.depth ≤ n
  | 0, .none, _ => ⟨by simp only [PyData.canLay0], by simp [PyData.depth]⟩
  | 0, .bool _, _ => ⟨by simp only [PyData.canLay0], by simp [PyData.depth]⟩
  | 0, .int _, _ => ⟨by simp only [PyData.canLay0], by simp [PyData.depth]⟩
  | 0, .str x, h => ⟨by simp only [PyData.canLay0]; exact h.2, by simp [PyData.depth]⟩
  | 0, .list _, h => h.elim
  | 0, .tuple _, h => h.elim
  | 0, .dict _, h => h.elim
  | n + 1, .none, _ => ⟨by simp only [PyData.canLay0], by simp [PyData.depth]⟩
  | n + 1, .bool _, _ => ⟨by simp only [PyData.canLay0], by simp [PyData.depth]⟩
  | n + 1, .int _, _ => ⟨by simp only [PyData.canLay0], by simp [PyData.depth]⟩
  | n + 1, .str x, h => ⟨by simp only [PyData.canLay0]; exact h.2, by simp [PyData.depth]⟩
  | n + 1, .list xs, h => by
    obtain ⟨a, b⟩ := Lv.shapes n xs h.2
    exact ⟨by simp only [PyData.canLay0]; exact a, by simp only [PyData.depth]; omega⟩
  | n + 1, .tuple xs, h => by
    obtain ⟨a, b⟩ := Lv.shapes n xs h.2
    exact ⟨by simp only [PyData.canLay0]; exact a, by simp only [PyData.depth]; omega⟩
  | n + 1, .dict _, h => h.elim
theorem Lv.shapes : ∀ (n : Nat) (xs : List PyData), (∀ x ∈ xs, Lv n x) → PyData.canLayAll0 xs = true ∧ PyData.depthAll xs ≤ n
  | n, [], _ => ⟨by simp only [PyData.canLayAll0], by simp [PyData.depthAll]⟩
  | n, x :: xs, h => by
    obtain ⟨a, b⟩ := Lv.shape n x (h x List.mem_cons_self)
    obtain ⟨c, e⟩ := Lv.shapes n xs fun y hy => h y (List.mem_cons_of_mem _ hy)
    exact ⟨by simp only [PyData.canLayAll0, a, c, Bool.and_self], by simp only [PyData.depthAll]; omega⟩
end
theorem Lv.shaped {n : Nat} {d : PyData} (h : Lv n d) (hn : n ≤ 64) : SeqAt.shaped d = true := by
  obtain ⟨a, b⟩ := Lv.shape n d h
  unfold SeqAt.shaped
  rw [a, decide_eq_true (by omega)]
  rfl
theorem strOk_lw {x : Str} (h : Lw x) : PyData.strOk x = true := by
  unfold PyData.strOk
  rw [Array.all_eq_true']
  intro c hc
  have q := h c (by unfold cs; exact Array.mem_toList_iff.mpr hc)
  have all : ∀ c ∈ cs abc, c < 0x110000 := by decide +kernel
  exact decide_eq_true (all c q)
theorem lv_nm {n : Nat} {x : Str} (h : isNm x = true) : Lv n (.str x) := by
  obtain ⟨h1, h2, h3⟩ := isNm_iff.mp h
  have q : x.length ≤ 100000 ∧ PyData.strOk x = true := ⟨by omega, strOk_lw h3⟩
  cases n <;> exact q
/-- a datum is a name -/
def nmD : PyData → Bool
  | .str x => isNm x
  | _ => false
/-- data that comes now and then -/
def odds : List PyData := [.none, .bool true, .bool false, .int 0, .int 1, .int (-1), .int 30, .int 999999999, .str "", .str "a", .str "A", .str "ab1", .str "abcdefg", .str "a b", .str "a\n", .str "{", .tuple [], .list [], .tuple [.str "a"], .list [.str "a"],
  .tuple [.str "b", .str "a"], .tuple [.str "a", .str "a"], .tuple [.str "a", .int 1], .tuple [.none], .tuple [.bool true], .tuple [.tuple [.str "a"]], .list [.list [.str "a"]], .tuple [.str "a", .list [.str "a"]], .tuple [.str "a", .str ""], .tuple [.str "a", .str "B"],
  .list [.str "a", .tuple [.str "a"]], .tuple [.str "a", .tuple [.str "b", .str "a"]], .tuple [.str "a", .tuple []], .tuple [.str "a", .list []], .tuple [.int 1, .tuple [.str "a"]]]
theorem odds_lv : ∀ d ∈ odds, Lv 2 d := by
  have h : odds.all (lvB 2) = true := by decide +kernel
  exact fun d hd => lv_of 2 d (List.all_eq_true.mp h d hd)
/-- one deeper -/
def LvN : Nat → PyData → Prop
  | 0, _ => False
  | n + 1, d => Lv n d
theorem lvn_list {n : Nat} {xs : List PyData} (h : Lv n (.list xs)) : xs.length ≤ 60 ∧ ∀ x ∈ xs, LvN n x := by
  cases n with
  | zero => exact h.elim
  | succ n => exact h
theorem lvn_tuple {n : Nat} {xs : List PyData} (h : Lv n (.tuple xs)) : xs.length ≤ 60 ∧ ∀ x ∈ xs, LvN n x := by
  cases n with
  | zero => exact h.elim
  | succ n => exact h
theorem da_two {K : PySem.W.Frag} {H : Hp} {v u : V} {d : PyData} {k : Nat} (hv : Da K H v d) (hu : Da K H u d) (h : tyD d = "list" ∨ tyD d = "tuple") (lv : Lv k d) :
    ∃ p r xs ys ds, v = .ref p ∧ u = .ref r ∧ (SqL K H p xs ∨ SqT K H p xs) ∧ (SqL K H r ys ∨ SqT K H r ys) ∧ DaAll K H xs ds ∧ DaAll K H ys ds ∧ ds.length ≤ 60 ∧ ∀ x ∈ ds, LvN k x := by
  cases d with
  | list ds =>
    cases hv with
    | lst h1 _ h2 =>
      cases hu with
      | lst g1 _ g2 => exact ⟨_, _, _, _, ds, rfl, rfl, .inl h1, .inl g1, h2, g2, (lvn_list lv).1, (lvn_list lv).2⟩
  | tuple ds =>
    cases hv with
    | tup h1 _ h2 =>
      cases hu with
      | tup g1 _ g2 => exact ⟨_, _, _, _, ds, rfl, rfl, .inr h1, .inr g1, h2, g2, (lvn_tuple lv).1, (lvn_tuple lv).2⟩
  | none => rcases h with h | h <;> exact absurd h (by decide)
  | bool b => rcases h with h | h <;> exact absurd (show ("bool" : String) = _ from h) (by decide)
  | int b => rcases h with h | h <;> exact absurd (show ("int" : String) = _ from h) (by decide)
  | str b => rcases h with h | h <;> exact absurd (show ("str" : String) = _ from h) (by decide)
  | dict b => cases hv
theorem ix_any {K : PySem.W.Frag} {H : Hp} {p : Addr} {xs : List V} {i : Nat} {v : V} {Q : VK} (h : SqL K H p xs ∨ SqT K H p xs) (e : xs[i]? = some v) (q : Q v H) : rIx K (.ref p) (.int ((0 : Int) + (i : Int))) H Q := by
  have a : atI xs ((0 : Int) + (i : Int)) = some v := by
    rw [Int.zero_add]
    exact atI_nat e
  rcases h with h | h
  · exact .inl ⟨p, xs, _, v, rfl, rfl, h, a, q⟩
  · exact .inr (.inl ⟨p, xs, _, v, rfl, rfl, h, a, q⟩)
theorem sq_any {K : PySem.W.Frag} {H H' : Hp} {p : Addr} {xs : List V} (s : Same H H') (h : SqL K H p xs ∨ SqT K H p xs) : SqL K H' p xs ∨ SqT K H' p xs := h.imp s.seq (same_t s)
/-- a judge of one datum, that changes nothing -/
def spJ (K : PySem.W.Frag) (n : Nat) (j : PyData → Bool) : Sp := fun vs H Q _ => ∃ (v : V) (d : PyData), vs = [v] ∧ Da K H v d ∧ Lv n d ∧ ∀ H', Same H H' → Q (.bl (j d)) H'
end Th
/-! texts in order, lots, statements -/
namespace Th
open PySem PySem.Spec PyProof.Rows L2
/-- x stands behind y or is y -/
def leS (x y : Str) : Prop := ¬ cs y < cs x
theorem ltCps_iff (x y : Str) : ltCps x.cps.toList y.cps.toList = decide (cs x < cs y) := by
  first | rfl | (rw [ltCps_eq]; rfl) | exact ltCps_eq ..
theorem rising_pair : ∀ (r : List Str) (p : Str), risingS p r = true → (p :: r).Pairwise leS
  | [], p, _ => List.pairwise_singleton _ _
  | x :: r, p, h => by
    have h' : (!ltCps x.cps.toList p.cps.toList && risingS x r) = true := h
    obtain ⟨a, b⟩ := Bool.and_eq_true_iff.mp h'
    have a' : leS p x := by
      rw [ltCps_iff] at a
      intro z
      rw [decide_eq_true z] at a
      cases a
    have ih := rising_pair r x b
    refine List.pairwise_cons.mpr ⟨fun y hy => ?_, ih⟩
    rcases List.mem_cons.mp hy with e | hy
    · rw [e]; exact a'
    · have q := (List.pairwise_cons.mp ih).1 y hy
      intro z
      have t1 := Std.lt_of_lt_of_le z (Std.not_lt.mp a')
      exact q t1
theorem sorted_pair {l : List Str} (h : sortedS l = true) : l.Pairwise leS := by
  cases l with
  | nil => exact List.Pairwise.nil
  | cons x r => exact rising_pair r x h
theorem leS_anti {x y : Str} (a : leS x y) (b : leS y x) : x = y := cs_inj (Std.le_antisymm (Std.not_lt.mp a) (Std.not_lt.mp b))
/-- one list in order has these members -/
theorem sorted_one : ∀ {l m : List Str}, l.Perm m → l.Pairwise leS → m.Pairwise leS → l = m
  | [], m, p, _, _ => (List.nil_perm.mp p).symm
  | x :: l, [], p, _, _ => (List.perm_nil.mp p)
  | x :: l, y :: m, p, h, k => by
    obtain ⟨h1, h2⟩ := List.pairwise_cons.mp h
    obtain ⟨k1, k2⟩ := List.pairwise_cons.mp k
    have e : x = y := by
      rcases List.mem_cons.mp (p.mem_iff.mp (List.mem_cons_self (a := x) (l := l))) with e | hx
      · exact e
      · rcases List.mem_cons.mp (p.mem_iff.mpr (List.mem_cons_self (a := y) (l := m))) with e | hy
        · exact e.symm
        · exact leS_anti (h1 y hy) (k1 x hx)
    subst e
    rw [sorted_one (List.perm_cons _ |>.mp p) h2 k2]
/-- each below the next -/
def risB : List Str → Bool
  | x :: y :: r => decide (cs x < cs y) && risB (y :: r)
  | _ => true
theorem ris_pair : ∀ {l : List Str}, risB l = true → l.Pairwise (fun x y => cs x < cs y)
  | [], _ => List.Pairwise.nil
  | [x], _ => List.pairwise_singleton _ _
  | x :: y :: r, h => by
    obtain ⟨a, b⟩ := Bool.and_eq_true_iff.mp (show (decide (cs x < cs y) && risB (y :: r)) = true from h)
    have ih := ris_pair b
    have a' := of_decide_eq_true a
    refine List.pairwise_cons.mpr ⟨fun z hz => ?_, ih⟩
    rcases List.mem_cons.mp hz with e | hz
    · rw [e]; exact a'
    · exact Std.lt_trans a' ((List.pairwise_cons.mp ih).1 z hz)
theorem pair_ris : ∀ {l : List Str}, l.Pairwise (fun x y => cs x < cs y) → risB l = true
  | [], _ => rfl
  | [x], _ => rfl
  | x :: y :: r, h => by
    obtain ⟨h1, h2⟩ := List.pairwise_cons.mp h
    show (decide (cs x < cs y) && risB (y :: r)) = true
    rw [decide_eq_true (h1 y List.mem_cons_self), pair_ris h2]
    rfl
theorem ris_nodup {l : List Str} (h : risB l = true) : l.Nodup := (ris_pair h).imp fun {x y} a e => by
  rw [e] at a
  exact Std.lt_irrefl a
theorem ris_le {l : List Str} (h : risB l = true) : l.Pairwise leS := (ris_pair h).imp fun {x y} a z => Std.lt_irrefl (Std.lt_trans a z)
theorem once_perm {xs : List Str} (h : xs.Nodup) : (once [] xs).Perm xs := by
  refine (List.perm_ext_iff_of_nodup (once_nodup xs [] List.nodup_nil) h).mpr fun y => ?_
  rw [once_mem]
  simp
/-- the texts in order, each once, are the texts themselves exactly if each is below the next -/
theorem lot_iff {xs ys : List Str} (p : ys.Perm (once [] xs)) (s : sortedS ys = true) : xs = ys ↔ risB xs = true := by
  constructor
  · intro e
    rw [e]
    have nd : ys.Nodup := p.nodup_iff.mpr (once_nodup xs [] List.nodup_nil)
    refine pair_ris ?_
    refine List.Pairwise.imp_of_mem (R := fun x y => leS x y ∧ x ≠ y) ?_ ((sorted_pair s).and nd)
    intro x y _ _ ⟨a, b⟩
    rcases Std.lt_trichotomy (cs x) (cs y) with z | z | z
    · exact z
    · exact absurd (cs_inj z) b
    · exact absurd z a
  · intro h
    exact sorted_one ((once_perm (ris_nodup h)).symm.trans p.symm) (ris_le h) (sorted_pair s)

def strD : PyData → Str
  | .str x => x
  | _ => Str.empty
theorem nmD_str {d : PyData} (h : nmD d = true) : d = .str (strD d) := by
  cases d <;> first | rfl | cases h
theorem nms_strs : ∀ {ds : List PyData}, ds.all nmD = true → ds = (ds.map strD).map .str
  | [], _ => rfl
  | d :: ds, h => by
    obtain ⟨a, b⟩ := Bool.and_eq_true_iff.mp (show (nmD d && ds.all nmD) = true from h)
    rw [List.map_cons, List.map_cons, ← nms_strs b, ← nmD_str a]
/-- a datum is a lot -/
def lotD : PyData → Bool
  | .tuple ds => !ds.isEmpty && ds.all nmD && risB (ds.map strD)
  | _ => false
theorem lotD_tup (ds : List PyData) : lotD (.tuple ds) = (!ds.isEmpty && ds.all nmD && risB (ds.map strD)) := rfl
def eqS : PyData → Str → Bool
  | .str y, x => y == x
  | _, _ => false
theorem eqv_str (d : PyData) (x : Str) : PyData.eqv d (.str x) = eqS d x := by
  cases d <;> simp [PyData.eqv, eqS]
theorem eqS_iff {d : PyData} {x : Str} : eqS d x = true ↔ d = .str x := by
  cases d <;> simp [eqS]
theorem eqv_strs : ∀ xs ys : List Str, PyData.eqvAll (xs.map .str) (ys.map .str) = decide (xs = ys)
  | [], [] => by simp [PyData.eqvAll]
  | [], _ :: _ => by simp [PyData.eqvAll]
  | _ :: _, [] => by simp [PyData.eqvAll]
  | x :: xs, y :: ys => by
    rw [List.map_cons, List.map_cons]
    have e : PyData.eqvAll (PyData.str x :: xs.map .str) (PyData.str y :: ys.map .str) = (PyData.eqv (.str x) (.str y) && PyData.eqvAll (xs.map .str) (ys.map .str)) := by simp [PyData.eqvAll]
    rw [e, eqv_strs xs ys, eqv_str, Bool.eq_iff_iff, Bool.and_eq_true, eqS_iff]
    simp
/-- a datum is a statement -/
def stD : PyData → Bool
  | .tuple (.str h :: r) => if h = "lot" then (r.length == 1 && r.all lotD) else if h = "before" then (r.length == 2 && r.all nmD) else (decide (h = "never") && r.isEmpty)
  | _ => false
theorem lv_head {n : Nat} {d : PyData} {r : List PyData} (h : Lv (n + 1) (.tuple (d :: r))) : Lv n d := h.2 d List.mem_cons_self
theorem lv_in {n : Nat} {ds : List PyData} {d : PyData} (h : Lv (n + 1) (.tuple ds)) (m : d ∈ ds) : Lv n d := h.2 d m
theorem lv_lot {n : Nat} {xs : List Str} (h : ∀ x ∈ xs, isNm x = true) (hl : xs.length ≤ 60) : Lv (n + 1) (.tuple (xs.map .str)) :=
  ⟨by rw [List.length_map]; exact hl, fun x hx => by
    obtain ⟨y, hy, rfl⟩ := List.mem_map.mp hx
    exact lv_nm (h y hy)⟩
theorem lv_lotL {n : Nat} {xs : List Str} (h : ∀ x ∈ xs, isNm x = true) (hl : xs.length ≤ 60) : Lv (n + 1) (.list (xs.map .str)) :=
  ⟨by rw [List.length_map]; exact hl, fun x hx => by
    obtain ⟨y, hy, rfl⟩ := List.mem_map.mp hx
    exact lv_nm (h y hy)⟩
theorem scan_small {n : Nat} (h : n ≤ 1000) : n + 1 < scanBound := by
  unfold scanBound
  omega
end Th
namespace Th
open PySem PySem.Spec PyProof.Rows L2
theorem kp {H : Hp} {l q : Addr} {o u : HO} (h : H l = some o) (hq : H q = none) : (upd H q u) l = some o := by
  rw [upd_ne (ne_of_none h hq)]
  exact h
/-- a part of data is data -/
theorem DaAll.cut {K : PySem.W.Frag} {H : Hp} {vs : List V} {ds : List PyData} (h : DaAll K H vs ds) (lo hi : Option Int) : ∃ es, DaAll K H (cutV vs lo hi) es ∧ (∀ e ∈ es, e ∈ ds) ∧ es.length ≤ ds.length := by
  unfold cutV
  refine ⟨_, (h.drop _).take _, fun e he => List.mem_of_mem_drop (List.mem_of_mem_take he), ?_⟩
  rw [List.length_take, List.length_drop]
  omega
theorem lv_snoc {n : Nat} {a b : List PyData} (h : ∀ d ∈ a, Lv n d) (k : ∀ d ∈ b, Lv n d) : ∀ d ∈ a ++ b, Lv n d := fun d hd => by
  rcases List.mem_append.mp hd with z | z
  · exact h d z
  · exact k d z
theorem lv_one {n : Nat} {d : PyData} (h : Lv n d) : ∀ e ∈ [d], Lv n e := fun e he => by
  rw [List.mem_singleton.mp he]
  exact h
theorem cutL {xs : List V} {ds : List PyData} {lo hi : Option Int} (h : xs.length = ds.length) : (cutV xs lo hi).length ≤ ds.length := by
  rw [← h]
  exact cutV_length xs lo hi
theorem cut_strs (zs : List Str) (lo hi : Option Int) : ∃ ws : List Str, cutV (zs.map V.str) lo hi = ws.map V.str ∧ (∀ x ∈ ws, x ∈ zs) ∧ ws.length ≤ zs.length := by
  unfold cutV
  refine ⟨(zs.drop (HT.sIx (zs.map V.str).length 0 lo)).take (HT.sIx (zs.map V.str).length (zs.map V.str).length hi - HT.sIx (zs.map V.str).length 0 lo), ?_, fun x hx => List.mem_of_mem_drop (List.mem_of_mem_take hx), ?_⟩
  · rw [List.map_take, List.map_drop]
  · rw [List.length_take, List.length_drop]
    omega
theorem lv_names {xs : List Str} (h : ∀ x ∈ xs, isNm x = true) (n : Nat) : ∀ d ∈ xs.map PyData.str, Lv n d := fun d hd => by
  obtain ⟨x, hx, rfl⟩ := List.mem_map.mp hd
  exact lv_nm (h x hx)
theorem lv_word (n : Nat) (x : Str) (h : PyData.strOk x = true) (h2 : x.length ≤ 100000) : Lv n (.str x) := by
  cases n <;> exact ⟨h2, h⟩
theorem Lv.ups {n m : Nat} {d : PyData} (h : Lv n d) (k : n ≤ m) : Lv m d := by
  induction k with
  | refl => exact h
  | step _ ih => exact ih.up
end Th
/-! a dict of the text with a few words as keys -/
namespace Th
open PySem PySem.Spec PyProof.Rows L2
/-- what a dict of the text holds at a word -/
def lookE : List (Str × Value) → Str → Option Value
  | [], _ => none
  | (k, v) :: r, z => if k = z then some v else lookE r z
theorem ns_of {K : PySem.W.Frag} {d : Addr} {c : Value} {od : Option Addr} {n : Nat} {sl : Array (Option Value)} : ∀ (es : List DictEntry) (kvs : List (Str × Value)), K.lookup d = some ⟨c, od, .dict es.toArray n, sl⟩ →
    Paired (fun (e : DictEntry) (p : Str × Value) => (∃ t, e.key = .str p.1 t) ∧ e.val = p.2) es kvs → ∀ z : Str, PySem.W.nsIn K d z = some (lookE kvs z) := by
  intro es kvs l p z
  unfold PySem.W.nsIn
  rw [l]
  show (match es.find? (fun e => e.key.isStr z) with | some e => some (some e.val) | none => if es.any (·.refKey) then none else some none) = some (lookE kvs z)
  have hno : es.any (·.refKey) = false := by
    clear l
    induction p with
    | nil => rfl
    | cons h _ ih =>
      obtain ⟨⟨t, e⟩, _⟩ := h
      rw [List.any_cons, ih, Bool.or_false]
      simp only [DictEntry.refKey, e]
  rw [hno]
  clear hno l
  induction p with
  | nil => rfl
  | @cons e q es kvs h _ ih =>
    obtain ⟨⟨t, e1⟩, e2⟩ := h
    obtain ⟨k, v⟩ := q
    rw [List.find?_cons]
    have hs : e.key.isStr z = decide (k = z) := by
      rw [PySem.W.isStr_of, e1]
      show Value.isStrOf z (.str k t) = _
      simp only [Value.isStrOf]
      rw [Bool.eq_iff_iff, beq_iff_eq, decide_eq_true_eq]
    rw [hs]
    unfold lookE
    by_cases hk : k = z
    · rw [decide_eq_true hk, if_pos hk]
      show some (some e.val) = _
      rw [e2]
    · rw [decide_eq_false hk, if_neg hk]
      exact ih
end Th
namespace Th
open PySem PySem.Spec PyProof.Rows L2
def rKd (K : PySem.W.Frag) (d : Addr) : R2 := fun x y H Q => ∃ (z : Str) (u0 : Value) (v0 : V), x = .ref d ∧ y = .str z ∧ PySem.W.nsIn K d z = some (some u0) ∧ RelV v0 u0 ∧ Q v0 H
def rInKd (K : PySem.W.Frag) (d : Addr) : R2 := fun x y H Q => ∃ (z : Str) (r : Option Value), x = .str z ∧ y = .ref d ∧ PySem.W.nsIn K d z = some r ∧ Q (.bl r.isSome) H
theorem ix_kd {X : Cx} {d : Addr} {es : Array DictEntry} {n : Nat} (D : KDict X.K X.w d es n) : IxR X (rKd X.K d) := by
  intro value slice pins s σ H x y v u Q I rx ry h hs
  have key := op_item_kd D pins s σ H x y v u Q I rx ry h
  obtain ⟨z, u0, v0, rfl, rfl, _⟩ := h
  cases rx
  exact tail_any (kd_type D I) PySem.F.slot_dict_getitem.lookup key hs
end Th
/-! a tuple read backwards -/
namespace Th
open PySem PySem.Spec PyProof.Rows L2 HT
section
variable {prog : Program} {w : World} {A : Around} {E : Value → Shared → Prop} {s : Shared}
theorem adj_rev (n : Nat) : Builtin.Slice.sliceAdjust none none (-1) (n : Int) = ((n : Int) - 1, -1) := by
  unfold Builtin.Slice.sliceAdjust
  simp
theorem places_rev (n : Nat) : Builtin.Slice.slicePlaces ((n : Int) - 1) (-1) (-1) = n := by
  unfold Builtin.Slice.slicePlaces
  have h1 : ¬ ((-1 : Int) > 0) := by decide
  rw [if_neg h1]
  by_cases h : (n : Int) - 1 > -1
  · rw [if_pos h, show (- -1 : Int) = 1 by decide, Int.ediv_one]
    omega
  · rw [if_neg h]
    omega
theorem applied_rev {sl : Addr} {vl vu vs : Value} {n : Nat} {Q : Int × Int × Nat → Shared → Prop} (hs : s.heap.IsSliceOf sl vl vu vs) (pl : IsPart vl none) (pu : IsPart vu none) (ps : IsPart vs (some (-1)))
    (h : Q ((n : Int) - 1, -1, n) s) : wpAny (model prog w) A (Builtin.Slice.sliceApplied (.ref sl) (pure (n : Int))) Q E s := by
  obtain ⟨os, hos, hcs, hds⟩ := id hs
  unfold Builtin.Slice.sliceApplied Builtin.Slice.sliceFields
  refine wpAny_bind (wpAny_bind (wpAny_field hos hds (x := vl) rfl (wpAny_bind (wpAny_field hos hds (x := vu) rfl (wpAny_bind (wpAny_field hos hds (x := vs) rfl (wpAny_pure ?_)))))))
  refine wpAny_bind (slicePart_ ps ?_)
  show wpAny _ _ (if ((-1 : Int) == 0) = true then _ else _) _ _ s
  rw [if_neg (by decide)]
  refine wpAny_bind (slicePart_ pl (wpAny_bind (slicePart_ pu (wpAny_bind (wpAny_pure ?_)))))
  show wpAny _ _ (match Builtin.Slice.sliceAdjust none none (-1) (n : Int) with | (lo, hi) => pure (lo, (-1 : Int), Builtin.Slice.slicePlaces lo hi (-1))) _ _ s
  rw [adj_rev n]
  show wpAny _ _ (pure ((n : Int) - 1, (-1 : Int), Builtin.Slice.slicePlaces ((n : Int) - 1) (-1) (-1))) _ _ s
  rw [places_rev]
  exact wpAny_pure h
theorem fm_congr {α β : Type} {f g : α → Option β} : ∀ {l : List α}, (∀ k ∈ l, f k = g k) → l.filterMap f = l.filterMap g
  | [], _ => rfl
  | a :: r, h => by
    rw [List.filterMap_cons, List.filterMap_cons, h a List.mem_cons_self, fm_congr (l := r) fun k hk => h k (List.mem_cons_of_mem _ hk)]
theorem pick_rev (xs : Array Value) : ((List.range xs.size).filterMap fun (k : Nat) => xs[(((xs.size : Int) - 1) + (k : Int) * (-1)).toNat]?).toArray = xs.toList.reverse.toArray := by
  have e : ((List.range xs.size).filterMap fun (k : Nat) => xs[(((xs.size : Int) - 1) + (k : Int) * (-1)).toNat]?) = (List.range xs.size).filterMap ((fun j => xs[j]?) ∘ fun k => xs.size - 1 - k) := by
    refine fm_congr fun k hk => ?_
    have := List.mem_range.mp hk
    have z : (((xs.size : Int) - 1) + (k : Int) * (-1)).toNat = xs.size - 1 - k := by omega
    rw [z]
    rfl
  rw [e, ← List.filterMap_map, PySem.W.krv_range, List.filterMap_reverse, PySem.W.krv_all]
theorem getItem_tuple_rev {t sl : Addr} {items : Array Value} {vl vu vs : Value} {Q : Value → Shared → Prop} (ht : IsTup s.heap t items) (hs : s.heap.IsSliceOf sl vl vu vs) (pl : IsPart vl none) (pu : IsPart vu none) (ps : IsPart vs (some (-1)))
    (h : Q (.ref s.heap.objs.size) { s with heap := s.heap.push { cls := .type "tuple", data := .seq items.toList.reverse.toArray } })
    (hsz : items.size ≤ sizeLine) : wpAny (model prog w) A (getItem (.ref t) (.ref sl)) Q E s := by
  have htake : sizeOk (.seq items.toList.reverse.toArray) := by
    show items.toList.reverse.toArray.size ≤ sizeLine
    rw [List.size_toArray, List.length_reverse, Array.length_toList]
    omega
  obtain ⟨os, hos, hcs, hds⟩ := id hs
  have hTs : s.TypeIs (.ref sl) "slice" := ⟨os, hos, hcs⟩
  unfold getItem
  try with_reducible refine wpAny_holding ?_
  first | refine wpAny_bind (wpAny_pure ?_) | skip
  refine wpAny_bind (wpAny_sequenceKey ht.typeIs (by decide) ?_)
  refine wpAny_bind (wpAny_callSpecial?_slot (name := Str.ofString "__getitem__") ht.typeIs PyProof.Rows.slot_tuple_getitem
    (wpAny_call_entry PyProof.Rows.slot_tuple_getitem ht.typeIs entry_tuple_getitem ?_ (args_tuple_getitem _ _)))
  show wpAny _ _ (Builtin.Tuple.tupleItemsOf (.ref t) >>= _) _ _ s
  refine wpAny_bind (tupleItemsOf_ ht ?_)
  refine wpAny_bind (wpAny_typeOf hTs ?_)
  rw [if_pos (by decide)]
  refine wpAny_bind (applied_rev hs pl pu ps ?_)
  have hno : ¬ ((((items.size : Int) - 1) == 0 && (-1 : Int) == 1 && items.size == items.size) = true) := by
    rw [show ((-1 : Int) == 1) = false by decide, Bool.and_false, Bool.false_and]
    exact Bool.false_ne_true
  show wpAny _ _ (if (((items.size : Int) - 1) == 0 && (-1 : Int) == 1 && items.size == items.size) = true then _ else _) _ _ s
  rw [if_neg hno, pick_rev]
  first
    | exact wpAny_bind (m := Builtin.Tuple.tupleExact _) (wpAny_newObj_type (wpAny_pure ⟨_, rfl, wpAny_pure h⟩) htake)
    | exact wpAny_bind (m := Builtin.Tuple.tupleExact _) (wpAny_newObj_type (wpAny_bind (wpAny_pure (wpAny_pure ⟨_, rfl, wpAny_pure h⟩))) htake)
    | exact wpAny_bind (wpAny_bind (m := Builtin.Tuple.tupleExact _) (wpAny_newObj_type (wpAny_pure (wpAny_pure ⟨_, rfl, wpAny_pure h⟩)) htake))
    | exact wpAny_bind (wpAny_bind (m := Builtin.Tuple.tupleExact _) (wpAny_newObj_type (wpAny_pure ⟨_, rfl, wpAny_pure h⟩) htake))
end
/-- a tuple whose object has no dict -/
def BareT (H : Hp) (a : Addr) (xs : List V) : Prop := ∃ o : Obj, H a = some (.frz o (.tup xs)) ∧ o.dict = none
theorem BareT.sq {K : PySem.W.Frag} {H : Hp} {a : Addr} {xs : List V} (h : BareT H a xs) : SqT K H a xs := by
  obtain ⟨o, e, _⟩ := h
  exact .inl (.inr ⟨o, e⟩)
theorem BareT.to {H H' : Hp} {a : Addr} {xs : List V} (h : BareT H a xs) (s : Same H H') : BareT H' a xs := by
  obtain ⟨o, e, d⟩ := h
  exact ⟨o, s _ _ e, d⟩
theorem bare_ty {K : PySem.W.Frag} {H : Hp} {a : Addr} {xs : List V} (h : BareT H a xs) : TyX K H (.ref a) (.type "tuple") := by
  obtain ⟨o, e, _⟩ := h
  exact .fTuple e
theorem bare_da {K : PySem.W.Frag} {H : Hp} {a : Addr} {xs : List V} {ds : List PyData} (h : BareT H a xs) (r : DaAll K H xs ds) : Da K H (.ref a) (.tuple ds) := .tup h.sq (bare_ty h) r
def rTupIx (K : PySem.W.Frag) : V → List V → Hp → VK → Prop := fun x xs H Q => ∃ p, ∃ ys : List Str, ∃ z j, x = .ref p ∧ xs = [.str z] ∧ SqT K H p (ys.map V.str) ∧ ys[j]? = some z ∧ (∀ m, m < j → ys[m]? ≠ some z) ∧ Q (.int (j : Nat)) H
theorem mt_tupIx {X : Cx} : MtR X "tuple.index" (rTupIx X.K) := mt_tup_index
def tyBare (x : V) (H : Hp) : Prop := ∃ a xs, x = .ref a ∧ BareT H a xs
section
variable {X : Cx}
theorem ty_bare : TyOk X "tuple" tyBare := by
  intro pins σ H s x v I r ty
  obtain ⟨a, xs, rfl, o, e, d⟩ := ty
  cases r
  have z := I.hok a _ e
  obtain ⟨g, _, its, _, o', g', c, _⟩ : ObjOk X.prog X.w H s.heap a (.frz o (.tup xs)) := z
  rw [g] at g'
  cases g'
  refine ⟨⟨o, g, c⟩, fun b e => ?_⟩
  cases e
  exact ⟨o, g, d⟩
theorem call_tuple_bare : CallR X (.type "tuple") (fun xs H Q => ∃ p ys, xs = [.ref p] ∧ SqL X.K H p ys ∧ ∀ l o, H l = none → o.dict = none → Q (.ref l) (upd H l (.frz o (.tup ys)))) := by
  intro pins s σ H xs us Q I r h
  obtain ⟨p, ys, rfl, hq, q⟩ := h
  obtain ⟨u, rfl, rx⟩ := vals1 r
  cases rx
  obtain ⟨its, r', pl, hz⟩ := I.list hq
  have hlen := r'.length
  refine call_tuple_list pl.isList (fun h' kp => ?_) (by simp only [List.size_toArray] <;> omega)
  have I1 : Inv X pins σ H { s with heap := h' } := I.kept (t' := s.toks) kp
  have I2 : Inv X pins σ (upd H h'.objs.size (.frz { cls := .type "tuple", data := .seq its.toArray } (.tup ys))) { s with heap := h'.push { cls := .type "tuple", data := .seq its.toArray } } :=
    I1.laid (t' := s.toks) (fun b o e => Heap.get?_push_of_some _ e) (Nat.le_refl _) (show ObjOk X.prog X.w _ _ _ (.frz { cls := .type "tuple", data := .seq its.toArray } (.tup ys)) from ⟨Heap.get?_push_size _ rfl, hz, its, r', IsTup.new _ _⟩)
  exact ⟨.ref h'.objs.size, _, I2, rfl, q _ _ (I1.hok.fresh (Nat.le_refl _)) rfl⟩
end
section
variable {X : Cx}
/-- a tuple backwards, in a new tuple -/
def tRevT (K : PySem.W.Frag) (te : TE) : TE := fun σ H Q => te σ H fun x H1 => ∃ a xs, x = .ref a ∧ SqT K H1 a xs ∧ ∀ p o, H1 p = none → o.dict = none → Q (.ref p) (upd H1 p (.frz o (.tup xs.reverse)))
theorem pe_revT {e : Expr} {te : TE} {k : Nat} {p1 p2 p3 pos : Pos} (he : PE X e te) : PE X (.Subscript e (.Slice none none (some (.UnaryOp .USub (.Constant (.int 1) k p1) p2)) p3) pos) (tRevT X.K te) := by
  refine ⟨fun pins s σ H Q I h => ?_⟩
  refine Subscript_ (thn (he.run pins s σ H _ I h) fun v s1 ⟨x, H1, I1, r1, q1⟩ => ?_)
  obtain ⟨a, xs, ex, hx, q⟩ := q1
  subst ex
  cases r1
  have hst : PO X (some (.UnaryOp .USub (.Constant (.int 1) k p1) p2)) (tPart (tUn (rU fun i => .int (-i)) (tC (.int 1)))) := po_some (pe_un un_neg pe_int)
  refine wpAny_Slice (thn (po_none.run pins s1 σ H1 (fun o H2 => o = none ∧ H2 = H1) I1 ⟨rfl, rfl⟩) fun vl s2 ⟨l, H2, I2, pl, el, e2⟩ => ?_)
  subst el e2
  refine thn (po_none.run pins s2 σ H2 (fun o H3 => o = none ∧ H3 = H2) I2 ⟨rfl, rfl⟩) fun vu s3 ⟨u, H3, I3, pu, eu, e3⟩ => ?_
  subst eu e3
  refine thn (hst.run pins s3 σ H3 (fun o H4 => o = some (-1) ∧ H4 = H3) I3 ⟨1, rfl, -1, rfl, rfl, rfl⟩) fun vs s4 ⟨o, H4, I4, ps, eo, e4⟩ => ?_
  subst eo e4
  have I5 : Inv X pins σ H4 { s4 with heap := s4.heap.push { cls := .type "slice", data := .fields #[vl, vu, vs] } } := I4.kept (t' := s4.toks) fun b ob q => Heap.get?_push_of_some _ q
  obtain ⟨its, r, ht, hz⟩ := I5.tuple hx
  have hlen : its.toArray.size = xs.length := by rw [List.size_toArray]; exact r.length.symm
  show wpAny (model X.prog X.w) X.A (subscriptTail e (.Slice none none (some (.UnaryOp .USub (.Constant (.int 1) k p1) p2)) p3) (.ref a) (.ref s4.heap.objs.size)) (EP X pins σ Q) X.xe { s4 with heap := s4.heap.push { cls := .type "slice", data := .fields #[vl, vu, vs] } }
  refine tail_any (ops := [.ref a, .ref s4.heap.objs.size]) ht.typeIs PyProof.Rows.slot_tuple_getitem.lookup ?_ (by with_unfolding_all rfl)
  refine getItem_tuple_rev ht (Heap.IsSliceOf.new _ vl vu vs) pl pu ps ?_ (by rw [hlen]; exact hz)
  refine ⟨.ref _, _, I5.laid (t' := s4.toks) (o := .frz { cls := .type "tuple", data := .seq its.toArray.toList.reverse.toArray } (.tup xs.reverse)) (fun b ob q => Heap.get?_push_of_some _ q) (Nat.le_refl _) ?_, rfl, q _ _ (I5.hok.fresh (Nat.le_refl _)) rfl⟩
  exact ⟨Heap.get?_push_size _ rfl, by rw [List.length_reverse]; exact hz, _, r.reverse, IsTup.new _ _⟩
end
end Th
/-! sorted(a tuple of texts) -/
namespace L2
open PySem PySem.Spec PyProof.Rows
section
variable {P : Program} {w : World} {A : Around} {E : Value → Shared → Prop} {s : Shared}
theorem tt_collect {t : Addr} {vs : List Value} {Q : List Value → Shared → Prop} (ht : IsTup s.heap t vs.toArray) (hz : vs.length ≤ sizeLine)
    (fin : ∀ s1 : Shared, (∀ b o, s.heap.get? b = some o → s1.heap.get? b = some o) → s1.gens = s.gens → s1.os = s.os → s.heap.objs.size ≤ s1.heap.objs.size → Q vs s1) :
    wpAny (model P w) A (collect (.ref t)) Q E s := by
  obtain ⟨o, ho, hc, n, hd⟩ := ht
  have hn : (s.heap.push (seqObj "list" #[] 0)).get? s.heap.objs.size = some (seqObj "list" #[] 0) := Heap.get?_push_size _ rfl
  unfold collect
  refine wpAny_bind (wpAny_runValue (codeAny_builtin entry_proto_collect' ?_))
  show wpAny _ _ (do again (.builtin "list.__iadd__" ⟨[← newList [], .ref t], []⟩)) _ _ s
  refine wpAny_bind (wpAny_newList (wpAny_pure ⟨Code.quiet_builtin _ (by decide +kernel), codeAny_builtin entry_list_iadd' ?_⟩))
  show wpAny _ _ (Builtin.List.listExtendWith (.ref s.heap.objs.size) (.ref t) (.ref s.heap.objs.size)) _ _ { s with heap := s.heap.push (seqObj "list" #[] 0) }
  have ho' : (s.heap.push (seqObj "list" #[] 0)).get? t = some o := Heap.get?_push_of_some _ ho
  unfold Builtin.List.listExtendWith
  refine wpAny_bind (wpAny_typeOf (T := "tuple") ⟨o, ho', hc⟩ ?_)
  rw [if_pos (by simp)]
  refine wpAny_bind (listItems_at ho' hd (wpAny_bind (listItems_at (xs := #[]) (n := 0) hn rfl ?_)))
  rw [if_neg (by simp)]
  refine wpAny_bind (listUpdate_at (xs := #[]) (n := 0) hn rfl ?_ (Nat.zero_le _) (by rw [Array.size_append, List.size_toArray]; show 0 + vs.length ≤ sizeLine + 1; omega))
  refine wpAny_pure ?_
  show wpAny (model P w) A (do
      let o ← load s.heap.objs.size
      match o.data with
      | .seq xs _ => pure xs.toList
      | _ => unsupported "internal:collect") Q E { s with heap := (s.heap.push (seqObj "list" #[] 0)).update s.heap.objs.size (Obj.mapSeq (· ++ vs.toArray)) }
  refine wpAny_bind (wpAny_load (get?_update_seq hn _) ?_)
  show wpAny _ _ (pure ((#[] : Array Value) ++ vs.toArray).toList) Q E _
  rw [show ((#[] : Array Value) ++ vs.toArray).toList = vs by simp]
  refine wpAny_pure (fin _ (fun b u hb => ?_) rfl rfl ?_)
  · have lt := Heap.lt_size hb
    show ((s.heap.push (seqObj "list" #[] 0)).update s.heap.objs.size (Obj.mapSeq (· ++ vs.toArray))).get? b = some u
    rw [Heap.get?_update_ne _ _ _ _ (Nat.ne_of_lt lt)]
    exact Heap.get?_push_of_some _ hb
  · show s.heap.objs.size ≤ ((s.heap.push (seqObj "list" #[] 0)).update s.heap.objs.size (Obj.mapSeq (· ++ vs.toArray))).objs.size
    rw [Heap.size_update, size_push']
    exact Nat.le_succ _
theorem tt_sorted {a : Addr} {vs : List Value} {l : List Str} {Q : Value → Shared → Prop} (ht : IsTup s.heap a vs.toArray) (hS : StrsAre vs l) (h64 : vs.length < 64)
    (fin : ∀ s' p (out : Array Value) (c : Nat) (ys : List Str), (∀ b o, s.heap.get? b = some o → s'.heap.get? b = some o) → s'.gens = s.gens → s'.os = s.os → s.heap.objs.size ≤ p →
      s'.heap.get? p = some (seqObj "list" out c) → StrsAre out.toList ys → ys.Perm l → sortedS ys = true → Q (.ref p) s') :
    wpAny (model P w) A (call (.builtin "sorted") [.ref a]) Q E s := by
  have hz : vs.length ≤ sizeLine := by rw [sizeLine_eq]; omega
  refine Calls.call_function_entry kind_sorted plain_sorted entry_sorted (args_sorted1 _) ?_
  unfold Builtin.«sorted»
  refine wpAny_bind (m := checkCount "sorted" 1 1 _) (wpAny_pure ?_)
  refine wpAny_bind (tt_collect ht hz fun s1 k1 g1 o1 hz1 => ?_)
  refine wpAny_bind (wpAny_newList ?_ hz)
  have hoL : (s1.heap.push (seqObj "list" vs.toArray 0)).get? s1.heap.objs.size = some (seqObj "list" vs.toArray 0) := Heap.get?_push_size _ rfl
  refine wpAny_bind (wpAny_holding (wpAny_call_entry slot_list_sort ⟨_, hoL, rfl⟩ entry_list_sort
    (list_sort_treeK strKind_oneLt hoL hS.keysOf (fun v₁ v₂ rest e => keyKind_strs (by rw [← e]; exact hS)) h64 fun st' a1 a2 => ⟨_, rfl, ?_⟩) (args_list_sort _)))
  obtain ⟨ys, b1, b2, b3⟩ := sorted_out_str hS a1 a2
  obtain ⟨c, hc⟩ := sortedHeap_at (vs := vs) (out := (arrOf st').map (·.2)) hoL
  refine wpAny_pure ⟨_, rfl, fin _ s1.heap.objs.size _ c ys (fun b u e => ?_) g1 o1 hz1 hc b1 b2 b3⟩
  have q := k1 b u e
  have hlt := Heap.lt_size q
  show (sortedHeap (s1.heap.push (seqObj "list" vs.toArray 0)) s1.heap.objs.size vs _).get? b = some u
  rw [sortedHeap_old (Nat.ne_of_lt hlt) (by rw [size_push']; exact Nat.lt_succ_of_lt hlt)]
  exact Heap.get?_push_of_some _ q
end
section
variable {X : Cx}
def rSortedTT (K : PySem.W.Frag) : List V → Hp → VK → Prop := fun vs H Q => ∃ (a : Addr) (l : List Str), vs = [V.ref a] ∧ SqT K H a (l.map V.str) ∧ l.length < 64 ∧
  ∀ (ys : List Str) (p : Addr), ys.Perm l → sortedS ys = true → H p = none → Q (.ref p) (upd H p (.lst (ys.map V.str)))
theorem cr_sortedTT : CallR X (.builtin "sorted") (rSortedTT X.K) := by
  intro pins s σ H vs us Q I r h
  obtain ⟨a, l, rfl, ha, h64, q⟩ := h
  obtain ⟨its, rv, ht, hz⟩ := I.tuple ha
  rw [Vals.ref1 r]
  have hl := rv.length
  rw [List.length_map] at hl
  refine tt_sorted ht rv.strs (by rw [← hl]; exact h64) fun s' p out c ys k g o hp hg hi hs hm => ?_
  have hlen : (ys.map V.str).length ≤ sizeLine := by rw [List.length_map, hs.length_eq, sizeLine_eq]; omega
  have hn : H p = none := I.hok.fresh hp
  have J : Inv X pins σ (upd H p (.lst (ys.map V.str))) { s with heap := s'.heap, gens := s'.gens, drawn := s'.drawn, toks := s'.toks } :=
    I.call (ch := []) (Un.laid k hp hn) (I.hok.laid k hp ⟨hlen, out.toList, c, vals_of_strs hi, hg⟩) (by rw [g]; exact I.bare) (fun _ z => nomatch z)
  have e : s' = { s with heap := s'.heap, gens := s'.gens, drawn := s'.drawn, toks := s'.toks } := by
    cases s'
    cases s
    cases o
    rfl
  rw [e]
  exact ⟨.ref p, _, J, rfl, q ys p hs hm hn⟩
end
end L2
/-! own exceptions with fields, over any built-in class: made, stored into, raised -/
namespace PySem
namespace XG
open PySem.W PySem.Calls PyProof.Rows
open Builtin Builtin.ObjectAttr
section
variable {prog : Program} {w : World} {A : Around} {R : Result → Shared → Prop} {hp : Heap} {g : Array GenState} {d : Drawn} {t : Nat} {os : OsState}
variable {K : W.Frag} {name : Str} {tk : Tok} {v : Value} {x C t1 : Addr} {B : String} {bmB : List Value}
abbrev rec_ (C t1 : Addr) (dv : Option Addr) : Obj := { cls := .ref C, dict := dv, data := .fields #[.ref t1, .none, .none, .none, .bool false, .none] }
/-- x.name = v, x without a dict as yet -/
theorem first_store (SF : StoreFacts B bmB "object.__setattr__" "object") (X : K.In hp) (hx : hp.get? x = some (rec_ C t1 none)) (ov : excOver K C bmB = true) (ht : takerIn K C name = some none) (hh : hasDictIn K C = true)
    (hq : ∀ h' tk' dx, (∀ b o, b ≠ x → hp.get? b = some o → h'.get? b = some o) → hp.objs.size ≤ dx → h'.get? x = some (rec_ C t1 (some dx)) → h'.Ns1 dx (fun y => if y = name then some v else none) → R (.ok (.ret .none)) ⟨h', g, d, tk', os⟩) :
    codeAny (model prog w) A (.call (.builtin "object.__setattr__") ⟨[.ref x, .str name tk, v], []⟩) R ⟨hp, g, d, t, os⟩ := by
  refine osa_openX (s := ⟨hp, g, d, t, os⟩) (od := none) SF X ⟨hx, rfl, rfl, trivial⟩ ov ht fun b => ?_
  obtain ⟨cd, hc, hd⟩ := any_some hh
  have lt : x < hp.objs.size := Heap.lt_size hx
  refine wpAny_bind (wpAny_pure (wpAny_bind (instanceDict_exc hx (looks_clsIn X hc) hd ?_)))
  show wpAny _ _ (storeInDict hp.objs.size (.str name tk) name v) _ _ _
  refine HandSPX.store_in_new (hp := (hp.push (dictOf [] 0)).update x fun o => { o with dict := some hp.objs.size }) ⟨_, #[], 0, (Heap.get?_update_ne _ _ _ _ (Nat.ne_of_gt lt)).trans (Heap.get?_push_at rfl rfl), rfl, fun e he => absurd he (by simp), fun _ => rfl⟩ fun h' tk' hn sm => ?_
  have up : ((hp.push (dictOf [] 0)).update x fun o => { o with dict := some hp.objs.size }).get? x = some (rec_ C t1 (some hp.objs.size)) := Heap.get?_update_self _ (Heap.get?_push_of_some _ hx) rfl
  refine hq h' tk' hp.objs.size (fun b o nb e => ?_) (Nat.le_refl _) ((sm.2 x (Nat.ne_of_lt lt)).trans up) hn
  have e1 := Heap.get?_push_of_some (dictOf [] 0) e
  exact (sm.2 b (Nat.ne_of_lt (Heap.lt_size e))).trans ((Heap.get?_update_ne _ _ _ _ nb).trans e1)
/-- x.name = v, x's dict at dx -/
theorem next_store {dx : Addr} {m0 : Str → Option Value} {nl : List Str} (SF : StoreFacts B bmB "object.__setattr__" "object") (X : K.In hp) (hx : hp.get? x = some (rec_ C t1 (some dx))) (hn : hp.Ns1 dx m0) (hw : Within m0 nl) (hl : nl.length ≤ 1000)
    (ov : excOver K C bmB = true) (ht : takerIn K C name = some none) (hh : hasDictIn K C = true)
    (hq : ∀ h' tk', (∀ b o, b ≠ dx → hp.get? b = some o → h'.get? b = some o) → h'.Ns1 dx (fun y => if y = name then some v else m0 y) → R (.ok (.ret .none)) ⟨h', g, d, tk', os⟩) :
    codeAny (model prog w) A (.call (.builtin "object.__setattr__") ⟨[.ref x, .str name tk, v], []⟩) R ⟨hp, g, d, t, os⟩ := by
  obtain ⟨od, _, _, D, _, _⟩ := hn.count hw
  refine osa_openX (s := ⟨hp, g, d, t, os⟩) (od := some od) SF X ⟨hx, rfl, rfl, D⟩ ov ht fun b => ?_
  obtain ⟨cd, hc, hd⟩ := any_some hh
  refine wpAny_bind (wpAny_pure (wpAny_bind (wpAny_bind (wpAny_loadPart hx (wpAny_bind ((looks_clsIn X hc).here ?_))))))
  rw [hd]
  refine wpAny_pure (a := some dx) ?_
  exact PySem.OEX.store_in_old hn hw hl fun h' tk' hn' sm => hq h' tk' (fun b o nb e => (sm.2 b nb).trans e) hn'
end
end XG
end PySem

namespace L2
open PySem PySem.Spec PyProof.Rows
/-- what the written part says of an own exception class at C -/
structure ExG (K : PySem.W.Frag) (C : Addr) : Prop where
  over : ∃ (B newId initId : String) (bmB : List Value), ExcBaseFacts B newId initId bmB ∧ StoreFacts B bmB "object.__setattr__" "object" ∧ PySem.W.excInitIn K C bmB newId = true ∧ PySem.W.excOver K C bmB = true
  sa : PySem.W.findIn K (.ref C) "__setattr__" = some (some (.builtin "object.__setattr__"))
  exC : PySem.W.subIn K (.ref C) (.type "BaseException") = some true
  tyC : PySem.W.typeIn K (.ref C) = some (.type "type")
  kC : PySem.W.keepIn K (.ref C) = true
  hd : PySem.W.hasDictIn K C = true
theorem taker_none {K : PySem.W.Frag} {C : Addr} {f : Str} (h : PySem.W.findIn K (.ref C) f = some none) : PySem.W.takerIn K C f = some none := by
  unfold PySem.W.takerIn
  rw [h]
  rfl
section
variable {X : Cx} {pins : List (Addr × Obj)} {σ : St} {H : Hp} {s : Shared} {a C dx : Addr} {f : Str} {y : V} {u : Value} {fs : List (Str × V)} {Q : Unit → Shared → Prop} {E : Value → Shared → Prop} {A : Around}
theorem put_first (T : ExG X.K C) (I : Inv X pins σ H s) (e : H a = some (exo a C none)) (nf : PySem.W.findIn X.K (.ref C) f = some none) (ry : RelV y u)
    (h : ∀ dx s', H dx = none → dx ≠ a → Inv X pins σ (upd (upd H dx (exd dx [(f, y)])) a (exo a C (some dx))) s' → Q () s') : wpAny (model X.prog X.w) A (setAttr (.ref a) f u) Q E s := by
  obtain ⟨B, newId, initId, bmB, FB, SF, ini, ov⟩ := T.over
  obtain ⟨t1, ho⟩ := exo_at I.hok e
  obtain ⟨hp, g, d, t, os⟩ := s
  refine PySem.W.set_plain I.kIn (ox := PySem.XG.rec_ C t1 none) (od := none) ⟨ho, rfl, rfl, trivial⟩ T.sa ?_
  refine PySem.XG.first_store SF I.kIn ho ov (taker_none nf) T.hd fun h' tk' dx k dn hx hn => ?_
  have fr : H dx = none := I.hok.fresh dn
  have ne : dx ≠ a := fun z => Nat.lt_irrefl _ (Nat.lt_of_lt_of_le (by rw [← z] at ho; exact Heap.lt_size ho) dn)
  -- the dict is laid ahead of the object's change
  have g1 : (h'.update a fun _ => PySem.XG.rec_ C t1 none).get? a = some (PySem.XG.rec_ C t1 none) := Heap.get?_update_self _ hx rfl
  have g2 : ∀ b, b ≠ a → (h'.update a fun _ => PySem.XG.rec_ C t1 none).get? b = h'.get? b := fun b nb => Heap.get?_update_ne _ _ _ _ nb
  have I1 : Inv X pins σ (upd H dx (exd dx [(f, y)])) ⟨h'.update a fun _ => PySem.XG.rec_ C t1 none, g, d, tk', os⟩ := by
    refine I.laid (t' := tk') (a := dx) (o := exd dx [(f, y)]) (h' := h'.update a fun _ => PySem.XG.rec_ C t1 none) (fun b o q => ?_) dn (exd_ok (hn.at fun o q => (g2 dx ne).trans q) fun z => ?_)
    · by_cases hb : b = a
      · subst hb
        rw [show hp.get? b = some o from q] at ho
        cases ho
        exact g1
      · exact (g2 b hb).trans (k b o hb q)
    · have z2 := relO_put (f := f) (fs := []) (mA := fun _ => none) ry (fun _ => trivial) z
      exact z2
  have I2 := I1.write (t' := tk') (x := a) (e := a) (o := exo a C (some dx)) (h' := h') (by rw [upd_ne ne.symm, e]; exact True.intro) (.inl rfl) (fun b o nb q => (g2 b nb).symm.trans q) ⟨_, hx⟩ (exo_ok hx)
  exact h dx _ fr ne I2
theorem put_next (T : ExG X.K C) (I : Inv X pins σ H s) (e : H a = some (exo a C (some dx))) (ed : H dx = some (exd dx fs)) (hl : fs.length ≤ 900) (nf : PySem.W.findIn X.K (.ref C) f = some none) (ry : RelV y u)
    (h : ∀ s', Inv X pins σ (upd H dx (exd dx ((f, y) :: fs))) s' → Q () s') : wpAny (model X.prog X.w) A (setAttr (.ref a) f u) Q E s := by
  obtain ⟨B, newId, initId, bmB, FB, SF, ini, ov⟩ := T.over
  obtain ⟨t1, ho⟩ := exo_at I.hok e
  obtain ⟨mA, hns, rel⟩ := exd_at I.hok ed
  have wi := within_of rel
  obtain ⟨hp, g, d, t, os⟩ := s
  obtain ⟨oD, _, _, D, _, _⟩ := hns.count wi
  refine PySem.W.set_plain I.kIn (ox := PySem.XG.rec_ C t1 (some dx)) (od := some oD) ⟨ho, rfl, rfl, D⟩ T.sa ?_
  refine PySem.XG.next_store SF I.kIn ho hns wi (by rw [List.length_map]; omega) ov (taker_none nf) T.hd fun h' tk' k hn => ?_
  have there : ∃ o, h'.get? dx = some o := let ⟨o, _, _, q, _⟩ := hn; ⟨o, q⟩
  exact h _ (I.write (t' := tk') (x := dx) (e := dx) (o := exd dx ((f, y) :: fs)) (by rw [ed]; exact True.intro) (.inl rfl) k there (exd_ok hn (relO_put ry rel)))
end
/-- self.f = e in such a class's __init__ -/
def tPut (K : PySem.W.Frag) (f : Str) (to te : TE) : TS := fun D σ H => te σ H fun y H1 => to σ H1 fun x H2 => ∃ a C : Addr, x = .ref a ∧ ExG K C ∧ PySem.W.findIn K (.ref C) f = some none ∧
  ((H2 a = some (exo a C none) ∧ ∀ dx, H2 dx = none → dx ≠ a → D.nx σ (upd (upd H2 dx (exd dx [(f, y)])) a (exo a C (some dx)))) ∨
    ∃ (dx : Addr) (fs : List (Str × V)), H2 a = some (exo a C (some dx)) ∧ H2 dx = some (exd dx fs) ∧ fs.length ≤ 900 ∧ D.nx σ (upd H2 dx (exd dx ((f, y) :: fs))))
theorem ps_put {X : Cx} {o e : Expr} {to te : TE} {f : Str} {p' pos : Pos} (ho : PE X o to) (he : PE X e te) (hs : swapsWith e (some (.Attribute o f p')) pos.line X.env = pure false := by rfl) : PS X (.Assign [.Attribute o f p'] e pos) (tPut X.K f to te) := by
  constructor
  intro pins s σ H D I h
  refine plainObj_wpAny_Assign_Attribute (thn (he.run pins s σ H _ I h) fun v s1 hv => ?_) hs
  obtain ⟨y, H1, I1, ry, q1⟩ := hv
  refine thn (ho.run pins s1 σ H1 _ I1 q1) fun u s2 hu => ?_
  obtain ⟨x, H2, I2, rx, a, C, ex, T, nf, q⟩ := hu
  subst ex
  obtain rfl : u = Value.ref a := rx
  rcases q with ⟨ea, q⟩ | ⟨dx, fs, ea, ed, hl, q⟩
  · exact put_first T I2 ea nf ry fun dx s' n ne J => ⟨σ, _, J, q dx n ne⟩
  · exact put_next T I2 ea ed hl nf ry fun s' J => ⟨σ, _, J, q⟩
/-- C(e, ..) -/
def tNewX (C : Addr) (sp : Sp) (ta : TA) : St → Hp → XK → Prop := fun σ H Q => ta σ H fun vs H1 => vs.length ≤ 1000 ∧ ∀ a, H1 a = none → sp (.ref a :: vs) (upd H1 a (exo a C none))
  (fun v H2 => v = .non ∧ ∃ (d : Addr) (fs : List (Str × V)), H2 a = some (exo a C (some d)) ∧ H2 d = some (exd d fs) ∧ H1 d = none ∧ Q (.ref C) (some d) (upd (del H2 a) d (.xd fs))) (fun _ _ _ => False)
theorem pmk_new {X : Cx} {x : Str} {C fI : Addr} {k : Nat} {fd : FuncData} {ps : List Str} {sp : Sp} {e : Expr} {es : List Expr} {ta : TA} {p pos : Pos} (T : ExG X.K C) (iC : PySem.W.findIn X.K (.ref C) "__init__" = some (some (.ref fI))) (tI : PySem.W.typeIn X.K (.ref fI) = some (.type "function"))
    (F1 : FnOk X.prog X.w X.K X.mg X.base CX0 k fI fd ps sp) (hr : Room (k + 1) X.A) (hb : Binds X.K fd ps []) (hg : Gl X x) (hm : X.mg x = some (.ref C)) (ha : PA X (e :: es) ta)
    (hdb : (x == ("__debug__" : Str)) = false := by decide) (he : starEach (e :: es) X.env = (false, eval e X.env) :: starEach es X.env := by rfl) (hpl : (backTo pos (starEach es X.env)).any (·.1) = false := by rfl) :
    PMk X (.Call (.Name x p) (e :: es) [] pos) (tNewX C sp ta) := by
  intro pins s σ H Q I h
  obtain ⟨B, newId, initId, bmB, FB, SF, ini, ov⟩ := T.over
  refine wpAny_Call_Name_kw (ld_glob I hg hm ?_ hdb)
  refine PySem.W.callWith_K (h₀ := X.base) I.ok.mod.kin T.kC (thn (ha.run pos pins s σ H _ I h) fun us s1 hu => ?_) he hpl
  obtain ⟨vs, H1, I1, r1, hz, q1⟩ := hu
  refine ⟨I1.kIn, ?_⟩
  obtain ⟨nm, N, qn, bs, bm, hdct, sn, sub, ab, col, dd, k0, k1, k2, k3, k5, hC, hT⟩ := PySem.W.excInit_of I1.kIn ini
  obtain ⟨hp, g, dr, tk, os⟩ := s1
  have up1 : hp.objs.size ≤ (hp.objs.size + 1) := Nat.le_succ _
  have fr : H1 (hp.objs.size + 1) = none := I1.hok.fresh up1
  have got : ((hp.push (PySem.W.kdv_tup us)).push (PySem.HandSPX.excO C hp.objs.size)).get? (hp.objs.size + 1) = some (PySem.HandSPX.excO C hp.objs.size) := by heap_get
  have two : ∀ b o, hp.get? b = some o → ((hp.push (PySem.W.kdv_tup us)).push (PySem.HandSPX.excO C hp.objs.size)).get? b = some o := fun b o q => Heap.get?_push_of_some _ (Heap.get?_push_of_some _ q)
  have I2 := I1.laid (t' := tk) (a := (hp.objs.size + 1)) (o := exo (hp.objs.size + 1) C none) (h' := (hp.push (PySem.W.kdv_tup us)).push (PySem.HandSPX.excO C hp.objs.size)) two up1 (exo_ok got)
  have want := q1 (hp.objs.size + 1) fr
  have r2 : Vals (V.ref (hp.objs.size + 1) :: vs) (Value.ref (hp.objs.size + 1) :: us) := .cons rfl r1
  have len : (Value.ref (hp.objs.size + 1) :: us).length = ps.length := r2.length.symm.trans (F1.len _ _ _ _ want)
  have short : us.length ≤ sizeLine := by
    rw [← Paired.length r1, sizeLine_eq]
    omega
  have hbb := hb _ (Value.ref (hp.objs.size + 1) :: us) I2.kIn (by rw [List.append_nil]; exact len)
  rw [List.append_nil] at hbb
  have run := F1.run _ X.stack _ _ ⟨Value.ref (hp.objs.size + 1) :: us, []⟩ (Value.ref (hp.objs.size + 1) :: us) _ _ (fun _ _ _ => False) (hr.make C us []) (I2.env0.make C us []) hbb r2 want
  refine wpAny_call (PySem.HandSPX.call_own FB hT hC (PySem.W.looks_findIn I1.kIn iC) (fun self => PySem.W.bind_fn I1.kIn self tI) short (codeAny_mono run fun r s' z => ?_))
  cases r with
  | error er => exact z.elim
  | ok fl =>
    cases fl with
    | next => exact z.elim
    | brk => exact z.elim
    | cont => exact z.elim
    | ret u =>
      obtain ⟨v, H2, os2, bare, un, hok, rv, ev, d, fs, ea, ed, hd1, q2⟩ := z
      subst ev
      obtain ⟨h2, g2, d2, t2, os'⟩ := s'
      exact ⟨rv, mk_end (raises_own T.exC T.tyC) I1 up1 two un hok os2 bare ea ed hd1 q2⟩
end L2
/-! an exception caught by a clause of two classes, its fields read, also in a def that it is handed to; a lambda called in a try -/
namespace PySem
namespace XG
theorem fly_on {base h h' : Heap} {l : List Env} {e : Addr} {Z : Obj → Prop} (F : HandSPX.FlyingZ base l e Z h) (k : ∀ b o, h.get? b = some o → h'.get? b = some o) : HandSPX.FlyingZ base l e Z h' := by
  obtain ⟨f1, f2, f3, oe, ws, T, oT, ts, g1, g2, g3, g4, g5, g6, g7, g8, g9⟩ := F
  exact ⟨fun b o q => k b o (f1 b o q), f2, f3.of_keeps fun b o q _ => ⟨o, k b o q, rfl⟩, oe, ws, T, oT, ts, k _ _ g1, g2, g3, g4, g5, g6, k _ _ g7, g8, g9⟩
end XG
end PySem
namespace L2
open PySem PySem.Spec PyProof.Rows L2H
/-! ### a field of a pinned exception -/
/-- the pinned exception: class C, its dict at dd -/
structure PinX (p : Addr × Obj) (C dd : Addr) : Prop where
  z : Zc (.ref C) (some dd) p.2
  f : ∃ vs, p.2.data = .fields vs
def tPinf (K : PySem.W.Frag) (p : Addr × Obj) (f : Str) (te : TE) : TE := fun σ H Q => te σ H fun x H1 => x = .ref p.1 ∧ ∃ (C dd : Addr) (fs : List (Str × V)) (v : V), PinX p C dd ∧ XfC K C ∧ PySem.W.findIn K (.ref C) f = some none ∧ H1 dd = some (.xd fs) ∧ fs.lookup f = some v ∧ Q v H1
theorem pe_pinf {X : Cx} {p : Addr × Obj} {e : Expr} {te : TE} {pos : Pos} {n : Str} (hp : p ∈ X.pn) (he : PE X e te) (hb : attributeBase e n X.env (eval e X.env) = eval e X.env := by rfl) : PE X (.Attribute e n pos) (tPinf X.K p n te) := by
  constructor
  intro pins s σ H Q I h
  refine attr_of hb (thn (he.run pins s σ H _ I h) fun u s1 hu => ?_)
  obtain ⟨x, H1, I1, rx, ex, C, dd, fs, v, P, T, nf, ea, l, q⟩ := hu
  subst ex
  obtain rfl : u = Value.ref p.1 := rx
  have at_ := (I1.pin p (List.mem_append_left _ hp)).1
  obtain ⟨vs, hd⟩ := P.f
  have held : ObjOk X.prog X.w H1 s1.heap dd (.xd fs) := I1.hok dd _ ea
  obtain ⟨mA, hns, rel⟩ := held
  obtain ⟨od, ho, hl⟩ := lookIn_ns hns
  obtain ⟨w, hw, rw⟩ := RelO.some_of (v := v) (o := mA n) (by rw [← l]; exact rel n)
  have J : PySem.W.InstAt s1.heap p.1 p.2 C (some od) := by
    refine ⟨at_, P.z.1, ?_, by rw [P.z.2]; exact ho⟩
    unfold PySem.W.notCls
    rw [hd] <;> rfl
  exact HandSPX.exc_get I1.kIn J T.ga T.gg T.exC (PySem.W.findObj_own T.hdC nf rfl (by rw [hl, hw])) (handed_of rw) ⟨v, H1, I1.tok _, rw, q⟩
/-! ### a def called in an except suite that raises nothing -/
structure FnQ (P : Program) (w : World) (K : PySem.W.Frag) (mg : Str → Option Value) (base : Heap) (k : Nat) (f : Addr) (fd : FuncData) (ps : List Str) (sp : Addr × Obj → Sp) : Prop where
  len : ∀ p vs H Q E, sp p vs H Q E → vs.length = ps.length
  run : ∀ (A : Around) (outer : List Env) (s : Shared) (H : Hp) (args : Args) (us : List Value) (vs : List V) (Q : VK) (E : XK) (p : Addr × Obj), RoomH k A → PinOk outer H s p → Env0 P w K mg base A outer s H → BindsTo s fd args (ps.zip us) → Vals vs us → sp p vs H Q E →
    codeAny (model P w) A (.call (.ref f) args) (CR CX0 outer P w H s Q E) s
theorem quiet_ok {P : Program} {w : World} {K : PySem.W.Frag} {mg : Str → Option Value} {base : Heap} {x qual : Str} {st : Stmt} {f : Addr} {fd : FuncData} {N ps : List Str} {k : Nat} {sp : Addr × Obj → Sp} (F : Fun K x qual st f fd) (S : FnScope N ps (defScope st)) (len : ∀ p vs H Q E, sp p vs H Q E → vs.length = ps.length)
    (hbody : ∀ (cdv : Value) (A : Around) (outer : List Env) (s : Shared) (H : Hp) (vs : List V) (Q : VK) (E : XK) (p : Addr × Obj), RoomH k (A.deeper (envOfC qual (defScope st) s.heap.objs.size f cdv)) → sp p vs H Q E →
      ∃ t, PSs (cxH CX0 P w K mg base N qual (defScope st) f cdv A outer s H E p) (defBody st) t ∧ t { nx := fun _ H' => Q .non H', rt := Q } (L2.start N vs) H) : FnQ P w K mg base (k + 1) f fd ps sp := by
  obtain ⟨oc, od, kV, doc, pm, an, cdv, ct, osl, rfl, lk, hcd⟩ := F.ex
  refine ⟨len, fun A outer s H args us vs Q E p hr pin e0 hb r hsp => ?_⟩
  have inK : K.In s.heap := e0.mod.kin.keeps fun b o e => (e0.bs b o e).1
  have kinds : ∀ y ∈ ps.zip us, (defScope st).names.lookup y.1 = some .local ∨ ((defScope st).names.lookup y.1 = some .cell ∧ ((cellsFrom (s.heap.objs.size + 1) (defScope st).names []).lookup y.1).isSome = true) := by
    rintro ⟨n, v⟩ hy
    rcases S.par n (List.of_mem_zip hy).1 with q | q
    · exact .inl q
    · exact .inr ⟨q, PySem.W.cellsFrom_some _ _ _ (.inl q)⟩
  refine codeAny_call_function hr.depth (inK _ _ lk) rfl S.co S.gen rfl (PySem.W.codeRec_of inK hcd) (hb _ _ _ _ ?_)
  refine wpAny_newFunctionEnv_cells S.kind kinds fun env he s1 x => ?_
  subst he
  refine ⟨(e0.mod.nolimit.keeps fun b o e => (e0.bs b o e).1).keeps x.toInCall.keep, codeAny_func ?_⟩
  obtain ⟨t, ht, hq⟩ := hbody cdv A outer s H vs Q E p (hr.deeper _) hsp
  have I := inv_startH (CX := CX0) (K := K) (mg := mg) (base := base) (P := P) (w := w) (E := E) (A := A) (qual := qual) (f := f) (cd := cdv) S pin e0 (len _ _ _ _ _ hsp) r x
  refine wpAny_mono (ht.run [] s1 (L2.start N vs) H _ I hq) (fun fl s' hs => ?_) fun e s' hs => hs
  cases fl with
  | ret u =>
    obtain ⟨v, σ', H', J, rv, q⟩ := hs
    exact ⟨v, H', J.os, J.bare, J.base, J.hok, rv, q⟩
  | next =>
    obtain ⟨σ', H', J, q⟩ := hs
    exact ⟨V.non, H', J.os, J.bare, J.base, J.hok, rfl, q⟩
  | brk =>
    obtain ⟨_, _, _, q⟩ := hs
    exact False.elim q
  | cont =>
    obtain ⟨_, _, _, q⟩ := hs
    exact False.elim q
theorem pe_callQ {X : Cx} {k : Nat} {f : Addr} {fd : FuncData} {ps : List Str} {sp : Addr × Obj → Sp} {x : Str} {q pos : Pos} {e : Expr} {es : List Expr} {t : TA} {p : Addr × Obj} (hp : p ∈ X.pn) (F : FnQ X.prog X.w X.K X.mg X.base k f fd ps sp) (hr : RoomH k X.A) (hg : Gl X x) (hm : X.mg x = some (.ref f)) (hk : PySem.W.keepIn X.K (.ref f) = true) (hb : Binds X.K fd ps [])
    (ha : PA X (e :: es) t) (hdb : (x == ("__debug__" : Str)) = false := by decide) (he : starEach (e :: es) X.env = (false, eval e X.env) :: starEach es X.env := by rfl) (hpl : (backTo pos (starEach es X.env)).any (·.1) = false := by rfl) :
    PE X (.Call (.Name x q) (e :: es) [] pos) (fun σ H Q => t σ H fun vs H1 => sp p vs H1 Q E0) := by
  constructor
  intro pins s σ H Q I h
  refine wpAny_Call_Name_kw (ld_glob I hg hm ?_ hdb)
  refine PySem.W.callWith_K (h₀ := X.base) I.ok.mod.kin hk (thn (ha.run pos pins s σ H _ I h) fun us s1 hu => ?_) he hpl
  obtain ⟨vs, H1, I1, r, hq⟩ := hu
  refine ⟨I1.kIn, ?_⟩
  have b := hb s1 us I1.kIn (by rw [List.append_nil, ← r.length]; exact F.len _ _ _ _ _ hq)
  rw [List.append_nil] at b
  obtain ⟨p1, p2, p3, p4, p5⟩ := I1.pin p (List.mem_append_left _ hp)
  have pin : PinOk X.stack H1 s1 p := ⟨p1, p2, fun hm => (List.mem_cons.mp (I1.stkSub p.1 hm)).elim p3 p4, p5⟩
  refine wpAny_call (codeAny_mono (F.run X.A X.stack s1 H1 ⟨us, []⟩ us vs Q E0 p hr pin I1.env0 b r hq) fun r s' z => ?_)
  cases r with
  | error e => exact (show False from z).elim
  | ok fl =>
    cases fl with
    | ret u => exact I1.after z
    | next => exact False.elim z
    | brk => exact False.elim z
    | cont => exact False.elim z
/-! ### try: body, except (x1, x2) as n: suite; nothing else flies -/
def wTwo (K : PySem.W.Frag) (c1 c2 : Value) (i : Nat) (ts : Addr → Value → Option Addr → TS) (D : Ends) : WX := fun cls d σ H => PySem.W.exmAny K cls [c1, c2] = some true ∧
  ∀ a, H a = none → i < σ.length → ts a cls d { nx := fun σ' H' => D.nx (σ'.set i none) H', rt := D.rt, bk := fun σ' H' => D.bk (σ'.set i none) H', ct := fun σ' H' => D.ct (σ'.set i none) H' } (σ.set i (some (.ref a))) H
section
variable {X : Cx} {x1 x2 n : Str} {c1 c2 : Value} {i j : Nat} {body suite : List Stmt} {b₀ : Stmt} {q1 q2 q3 pos pos' : Pos} {tb : WX → TS} {ts : Addr → Value → Option Addr → TS}
theorem ps_try_two (hs : X.stack = X.env :: X.outer) (hf : X.env.frame = some X.env.locals) (hN : X.N.Nodup) (hi : X.N[i]? = some n) (hln : X.env.kindOf n = some .local)
    (g1 : Gl X x1) (d1 : (x1 == ("__debug__" : Str)) = false) (m1 : X.mg x1 = some c1) (g2 : Gl X x2) (d2 : (x2 == ("__debug__" : Str)) = false) (m2 : X.mg x2 = some c2)
    (hb : ∀ (W : WX) (pn : List (Addr × Obj)) (xe : Value → Shared → Prop), Takes (X.tr pn xe) W → PSs (X.tr pn xe) body (tb W))
    (hsu : ∀ (a : Addr) (oe : Obj) (cls : Value) (d : Option Addr) (pn : List (Addr × Obj)), Zc cls d oe → (∃ vs, oe.data = .fields vs) → PSs (X.suite a ((a, oe) :: pn)) (b₀ :: suite) (ts a cls d)) :
    PS X (.Try body [.ExceptHandler (some (.Tuple [.Name x1 q1, .Name x2 q2] j q3)) (some n) (b₀ :: suite) pos'] [] [] pos) (fun D σ H => tb (wTwo X.K c1 c2 i ts D) D σ H) := by
  constructor
  intro pins s σ H D I h
  have ok := I.ok
  refine wpAny_Try_except (wpAny_mono ((hb (wTwo X.K c1 c2 i ts D) (X.pn ++ pins) _ ?tk).run [] s σ H D (I.toTry _) h) ?_ fun e s1 he => he)
  case tk =>
    rintro u s' ⟨a, B, sI, pins', σ', H', cls, d, rfl, J', nb, up, sky, na, os, ag, ex, want⟩
    have J : Inv X pins σ' H' sI := J'.ofTry ok
    have hfr : X.A.frames = some (X.env :: X.outer) := by rw [ok.frames, hs]
    rw [show (X.tr (X.pn ++ pins) _).stack = X.env :: X.outer from hs] at sky
    show wpAny (model X.prog X.w) X.A (noteFrame (.ref a) X.env) _ _ _
    refine Sky.land Zc.steady hfr hf sky fun h3 fl3 up3 => ?_
    have J3 : Inv X pins σ' H' { s' with heap := h3 } := J.landed nb fl3.1 (up.trans up3) os ag
    obtain ⟨oe3, vs3, he3, hz3, hd3⟩ := fl3.there
    -- the exception is no frame
    have off : a ∉ frs (X.env :: X.outer) := fun hm => by
      obtain ⟨_, o', e', hnf⟩ := fl3.2.2.1.mem hm
      rw [he3] at e'
      cases e'
      exact hnf _ hd3
    have nL : a ≠ X.env.locals := fun z => off (List.mem_filterMap.mpr ⟨X.env, List.mem_cons_self, by rw [hf, z]⟩)
    have nF : a ∉ X.fs := fun hm => by
      obtain ⟨e, he, q⟩ := List.mem_filterMap.mp hm
      exact off (List.mem_filterMap.mpr ⟨e, List.mem_cons_of_mem _ he, q⟩)
    have S3 := J3.suite he3 hd3 na nL nF
    refine PySem.W.exc_clause_as ?_
    refine wpAny_Tuple (wpAny_items_cons (ld_glob (X := X.suite a ((a, oe3) :: (X.pn ++ pins))) S3 g1 m1 ?_ d1))
    refine wpAny_items_cons (ld_glob (X := X.suite a ((a, oe3) :: (X.pn ++ pins))) S3 g2 m2 ?_ d2)
    refine wpAny_items_nil ⟨by size_fits, ?_⟩
    have kp : ∀ q o, h3.get? q = some o → (h3.push { cls := .type "tuple", data := .seq [c1, c2].toArray }).get? q = some o := fun _ _ z => Heap.get?_push_of_some _ z
    have LT : PySem.W.Looks (model X.prog X.w) h3 (typeOf (.ref a)) cls := fun A Q E s k q => wpAny_typeOf_ref (k _ _ he3) (by rw [hz3.1]; exact q)
    refine ⟨true, PySem.W.exm_tup2 (J3.kIn.keeps kp) (LT.keeps kp) (Heap.get?_push_size h3 rfl) ex, ?_⟩
    rw [if_pos rfl]
    have up3' := (up.trans up3).trans (Heap.UpToSlots.of_keeps kp)
    refine HandSPX.lands_againZ (PySem.XG.fly_on fl3 kp) fun h4 fl4 up4 => ?_
    have J4 : Inv X pins σ' H' { s' with heap := h4 } := J.landed nb fl4.1 (up3'.trans up4) os ag
    obtain ⟨oe4, vs4, he4, hz4, hd4⟩ := fl4.there
    have S4 := J4.suite he4 hd4 na nL nF
    refine store_ok (X := X.suite a ((a, oe4) :: (X.pn ++ pins))) (v := .ref a) S4 hN hi (.inl hln) rfl (fun s5 S5 => ?_) (.inr hln)
    refine wpAny_mono ((hsu a oe4 cls d (X.pn ++ pins) hz4 ⟨_, hd4⟩).run [] s5 _ H' _ S5 (want a na (by rw [J.len]; exact (List.getElem?_eq_some_iff.mp hi).1))) (fun f s6 hsp => ?_) fun _ _ z => False.elim z
    have gone : ∀ {σ6 : St} {H6 : Hp} {Q : Shared → Prop}, Inv (X.suite a ((a, oe4) :: (X.pn ++ pins))) [] σ6 H6 s6 → (∀ s7, Inv X pins (σ6.set i none) H6 s7 → Q s7) →
        wpAny (model X.prog X.w) X.A (do bindName X.env n .none; unbindBehindTheSuite X.env n pos') (fun _ s7 => Q s7) X.xe s6 := fun S6 hq => gone_ok (S6.unsuite ok) hN hi hln hq
    cases f with
    | ret u =>
      obtain ⟨v6, σ6, H6, S6, r6, q6⟩ := hsp
      exact gone S6 fun s7 J7 => ⟨_, _, _, J7, r6, q6⟩
    | next =>
      obtain ⟨σ6, H6, S6, q6⟩ := hsp
      exact gone S6 fun s7 J7 => ⟨_, _, J7, q6⟩
    | brk =>
      obtain ⟨σ6, H6, S6, q6⟩ := hsp
      exact gone S6 fun s7 J7 => ⟨_, _, J7, q6⟩
    | cont =>
      obtain ⟨σ6, H6, S6, q6⟩ := hsp
      exact gone S6 fun s7 J7 => ⟨_, _, J7, q6⟩
  · intro f s1 hsp
    cases f with
    | next =>
      obtain ⟨σ', H', J', q⟩ := hsp
      exact wpAny_execs_nil ⟨σ', H', J'.ofTry ok, q⟩
    | ret u =>
      obtain ⟨v, σ', H', J', r, q⟩ := hsp
      exact ⟨v, σ', H', J'.ofTry ok, r, q⟩
    | brk =>
      obtain ⟨σ', H', J', q⟩ := hsp
      exact ⟨σ', H', J'.ofTry ok, q⟩
    | cont =>
      obtain ⟨σ', H', J', q⟩ := hsp
      exact ⟨σ', H', J'.ofTry ok, q⟩
end
end L2
/-! what the laws' proofs share about errors: their promises, the fields, a lambda called in a try -/
namespace Th
open PySem PySem.Spec PyProof.Rows L2
/-! ### what stays but for tables of code and exceptions being made -/
def Plain (o : HO) : Prop := (∀ φ, o ≠ .ext φ) ∧ ∀ ps, o ≠ .tbl ps
def KeepD (H H' : Hp) : Prop := ∀ b o, H b = some o → Plain o → H' b = some o
theorem KeepD.of {H H' : Hp} (s : Same H H') : KeepD H H' := fun b o e _ => s b o e
theorem KeepD.trans {H H1 H2 : Hp} (a : KeepD H H1) (b : KeepD H1 H2) : KeepD H H2 := fun c o e p => b c o (a c o e p) p
theorem KeepD.refl (H : Hp) : KeepD H H := fun _ _ e _ => e
theorem keepD_ext {H H' : Hp} (e : LamX.ExtN H H') : KeepD H H' := fun b o h p => e b o h p.2
theorem plain_lst (xs : List V) : Plain (.lst xs) := ⟨fun φ z => (by cases z), fun ps z => (by cases z)⟩
theorem plain_tup (xs : List V) : Plain (.tup xs) := ⟨fun φ z => (by cases z), fun ps z => (by cases z)⟩
theorem plain_frz (o : Obj) (u : HO) : Plain (.frz o u) := ⟨fun φ z => (by cases z), fun ps z => (by cases z)⟩
theorem plain_ins (C dx : Addr) (fs : List (Str × V)) : Plain (.ins C dx fs) := ⟨fun φ z => (by cases z), fun ps z => (by cases z)⟩
theorem plain_dK (kvs : List (Key × V)) : Plain (.dK kvs) := ⟨fun φ z => (by cases z), fun ps z => (by cases z)⟩
theorem plain_dT (kvs : List (List Key × V)) : Plain (.dT kvs) := ⟨fun φ z => (by cases z), fun ps z => (by cases z)⟩
theorem plain_set (S : Int → Bool) (n : Nat) : Plain (.set S n) := ⟨fun φ z => (by cases z), fun ps z => (by cases z)⟩
section
variable {K : PySem.W.Frag} {H H' : Hp}
theorem KeepD.l (e : KeepD H H') {a : Addr} {xs : List V} (h : SqL K H a xs) : SqL K H' a xs := by
  rcases h with (h | ⟨o, h⟩) | h
  · exact .inl (.inl (e _ _ h (plain_lst xs)))
  · exact .inl (.inr ⟨o, e _ _ h (plain_frz o _)⟩)
  · exact .inr h
theorem KeepD.t (e : KeepD H H') {a : Addr} {xs : List V} (h : SqT K H a xs) : SqT K H' a xs := by
  rcases h with (h | ⟨o, h⟩) | h
  · exact .inl (.inl (e _ _ h (plain_tup xs)))
  · exact .inl (.inr ⟨o, e _ _ h (plain_frz o _)⟩)
  · exact .inr h
theorem KeepD.ty (e : KeepD H H') {v : V} {t : Value} (h : TyX K H v t) : TyX K H' v t := by
  cases h with
  | byt b => exact .byt b
  | kList h c => exact .kList h c
  | kTuple h c => exact .kTuple h c
  | kDict h c => exact .kDict h c
  | set h => exact .set (e _ _ h (plain_set _ _))
  | fTuple h => exact .fTuple (e _ _ h (plain_frz _ _))
  | fDict h => exact .fDict (e _ _ h (plain_frz _ _))
  | base b =>
    refine .base ?_
    cases b with
    | non => exact .non
    | bl x => exact .bl x
    | int i => exact .int i
    | str x => exact .str x
    | flt x => exact .flt x
    | lst h => exact .lst (e _ _ h (plain_lst _))
    | frz h => exact .frz (e _ _ h (plain_frz _ _))
    | tup h => exact .tup (e _ _ h (plain_tup _))
    | dK h => exact .dK (e _ _ h (plain_dK _))
    | dT h => exact .dT (e _ _ h (plain_dT _))
    | ins h cl ha hn htk hm => exact .ins (e _ _ h (plain_ins _ _ _)) cl ha hn htk hm
mutual
theorem Da.keepD (e : KeepD H H') : ∀ (d : PyData) (v : V), Da K H v d → Da K H' v d
  | .none, _, h => by cases h; exact .non
  | .bool b, _, h => by cases h; exact .bl b
  | .int i, _, h => by cases h; exact .int i
  | .str x, _, h => by cases h; exact .str x
  | .list ds, _, h => by
    cases h with
    | lst hs ht ha => exact .lst (e.l hs) (e.ty ht) (DaAll.keepD e ds _ ha)
  | .tuple ds, _, h => by
    cases h with
    | tup hs ht ha => exact .tup (e.t hs) (e.ty ht) (DaAll.keepD e ds _ ha)
  | .dict _, _, h => by cases h
theorem DaAll.keepD (e : KeepD H H') : ∀ (ds : List PyData) (vs : List V), DaAll K H vs ds → DaAll K H' vs ds
  | [], _, h => by cases h; exact .nil
  | d :: ds, _, h => by
    cases h with
    | cons h1 h2 => exact .cons (Da.keepD e d _ h1) (DaAll.keepD e ds _ h2)
end
theorem Da.kd {v : V} {d : PyData} (h : Da K H v d) (e : KeepD H H') : Da K H' v d := Da.keepD e d v h
end
theorem KeepD.drw {D : DS} {H H' : Hp} (e : KeepD H H') (d : Drw D H) : Drw D H' := by
  obtain ⟨ne, sc, few, i, v, m, c, st, r⟩ := d
  exact ⟨ne, e _ _ sc (plain_lst _), few, i, v, m, c, e _ _ st (plain_lst _), r⟩
theorem KeepD.go {D : DS} {H H' : Hp} (d : Drw D H) (g : Go D H H') {a : Addr} {o : HO} (h : H a = some o) (ne : a ≠ D.p) : H' a = some o := g.old ne h
theorem Tabs.sm {T : List (Addr × Str)} {H H' : Hp} (t : LamX.Tabs T H) (s : Same H H') : LamX.Tabs T H' := t.ext fun b o e => s b o e
theorem Tabs.go {T : List (Addr × Str)} {D : DS} {H H' : Hp} (t : LamX.Tabs T H) (d : Drw D H) (g : Go D H H') : LamX.Tabs T H' := fun p hp => by
  obtain ⟨ps, h1, h2, h3⟩ := t p hp
  obtain ⟨_, _, _, i, v, m, c, st, _⟩ := d
  have n1 : p.1 ≠ D.p := fun z => by
    rw [z, st] at h1
    cases h1
  refine ⟨ps, g.old n1 h1, h2, fun pos cv hc => ?_⟩
  obtain ⟨c', e1, e2⟩ := h3 pos cv hc
  have n2 : c' ≠ D.p := fun z => by
    rw [z, st] at e2
    unfold LamX.CodeO at e2
    cases e2
  exact ⟨c', e1, g.old n2 e2⟩

/-! ### errors -/
/-- an error that flies: its class by name, its fields -/
structure IsExc (K : PySem.W.Frag) (mg : Str → Option Value) (code : Str) (fs : List (Str × V)) (cls : Value) (d : Option Addr) (H : Hp) : Prop where
  ex : ∃ C dd : Addr, cls = .ref C ∧ d = some dd ∧ XfC K C ∧ (∀ f ∈ fs.map (·.1), PySem.W.findIn K (.ref C) f = some none) ∧ H dd = some (.xd fs) ∧
    ∀ c1 c2, mg "FindError" = some (.ref c1) → mg "Missing" = some (.ref c2) → PySem.W.exmAny K cls [.ref c1, .ref c2] = some true
  code : fs.lookup ("code" : Str) = some (V.str code)
/-- an error class of the program; st: its __init__ -/
structure ErrC (K : PySem.W.Frag) (mg : Str → Option Value) (x : Str) (qual : Str) (st : Stmt) (ps : List Str) (fns : List Str) (C fI : Addr) (fd : FuncData) : Prop where
  m : mg x = some (.ref C)
  g : ExG K C
  xf : XfC K C
  nf : ∀ f ∈ fns, PySem.W.findIn K (.ref C) f = some none
  ini : PySem.W.findIn K (.ref C) "__init__" = some (some (.ref fI))
  tI : PySem.W.typeIn K (.ref fI) = some (.type "function")
  F : Fun K "__init__" qual st fI fd
  b : Binds K fd ps []
  ca : ∀ c1 c2, mg "FindError" = some (.ref c1) → mg "Missing" = some (.ref c2) → PySem.W.exmAny K (.ref C) [.ref c1, .ref c2] = some true
/-- __init__(self, v): self.fld = _copied(v); self.code = code -/
def spInit1 (K : PySem.W.Frag) (code fld : Str) (n : Nat) : Sp := fun vs H Q _ => ∃ (a C : Addr) (v : V) (d : PyData), vs = [.ref a, v] ∧ ExG K C ∧ PySem.W.findIn K (.ref C) fld = some none ∧ PySem.W.findIn K (.ref C) "code" = some none ∧ H a = some (exo a C none) ∧ Da K H v d ∧ LvN n d ∧
  ∀ (H1 : Hp) (v' : V) (dx : Addr), Same H H1 → Da K H1 v' d → H1 dx = none → dx ≠ a → Q .non (upd (upd (upd H1 dx (exd dx [(fld, v')])) a (exo a C (some dx))) dx (exd dx [("code", .str code), (fld, v')]))
theorem new1 {K : PySem.W.Frag} {mg : Str → Option Value} {x qual fld : Str} {st : Stmt} {ps fns : List Str} {C fI : Addr} {fd : FuncData} {n : Nat} {H : Hp} {v : V} {d : PyData} {W : XK} (E : ErrC K mg x qual st ps fns C fI fd) (h1 : fld ∈ fns) (h2 : ("code" : Str) ∈ fns) (hv : Da K H v d) (lv : LvN n d)
    (q : ∀ cls dd v' H', Same H H' → IsExc K mg x [("code", .str x), (fld, v')] cls dd H' → Da K H' v' d → W cls dd H') :
    ([v] : List V).length ≤ 1000 ∧ ∀ a, H a = none → spInit1 K x fld n (.ref a :: [v]) (upd H a (exo a C none)) (fun v H2 => v = .non ∧ ∃ (d : Addr) (fs : List (Str × V)), H2 a = some (exo a C (some d)) ∧ H2 d = some (exd d fs) ∧ H d = none ∧ W (.ref C) (some d) (upd (del H2 a) d (.xd fs))) (fun _ _ _ => False) := by
  refine ⟨by show 1 ≤ 1000; decide, fun a na => ⟨a, C, v, d, rfl, E.g, E.nf _ h1, E.nf _ h2, upd_same, hv.to (same_new na), lv, fun H1 v' dx s hv' nd ne => ?_⟩⟩
  have ea := s _ _ (upd_same (H := H) (a := a) (o := exo a C none))
  have nH : H dx = none := by
    cases e : H dx with
    | none => rfl
    | some o =>
      have := s dx o (by rw [upd_ne ne]; exact e)
      rw [nd] at this
      cases this
  refine ⟨rfl, dx, _, ?_, upd_same, nH, q _ _ v' _ (fun b o e => ?_) ⟨⟨C, dx, rfl, rfl, E.xf, fun f hf => ?_, upd_same, E.ca⟩, rfl⟩ ?_⟩
  · rw [upd_ne ne.symm, upd_same]
  · have nb : b ≠ a := fun z => by rw [z, na] at e; cases e
    have nb2 : b ≠ dx := fun z => by rw [z, nH] at e; cases e
    rw [upd_ne nb2, del_ne nb, upd_ne nb2, upd_ne nb, upd_ne nb2]
    exact s b o (by rw [upd_ne nb]; exact e)
  · rcases List.mem_cons.mp hf with e | m
    · rw [e]; exact E.nf _ h2
    · rw [List.mem_singleton.mp m]; exact E.nf _ h1
  · refine hv'.kd fun b o e p => ?_
    have nb : b ≠ a := fun z => by
      rw [z, ea] at e
      exact p.1 _ (Option.some.inj e).symm
    have nb2 : b ≠ dx := fun z => by rw [z, nd] at e; cases e
    rw [upd_ne nb2, del_ne nb, upd_ne nb2, upd_ne nb, upd_ne nb2]
    exact e
/-- what a def promises that may raise -/
def HasX (P : Program) (w : World) (K : PySem.W.Frag) (mg : Str → Option Value) (base : Heap) (x : Str) (st : Stmt) (k : Nat) (ps : List Str) (sp : Sp) : Prop :=
  ∃ (f : Addr) (fd : FuncData), FnOk P w K mg base (L2.CX P w) k f fd ps sp ∧ mg x = some (.ref f) ∧ PySem.W.keepIn K (.ref f) = true ∧ Binds K fd ps [] ∧ Fun K x x st f fd
def HasQ (P : Program) (w : World) (K : PySem.W.Frag) (mg : Str → Option Value) (base : Heap) (x : Str) (st : Stmt) (k : Nat) (ps : List Str) (sp : Addr × Obj → Sp) : Prop :=
  ∃ (f : Addr) (fd : FuncData), FnQ P w K mg base k f fd ps sp ∧ mg x = some (.ref f) ∧ PySem.W.keepIn K (.ref f) = true ∧ Binds K fd ps [] ∧ Fun K x x st f fd
def HasE (P : Program) (w : World) (K : PySem.W.Frag) (mg : Str → Option Value) (base : Heap) (x qual : Str) (st : Stmt) (ps fns : List Str) (k : Nat) (sp : Sp) : Prop :=
  ∃ (C fI : Addr) (fd : FuncData), ErrC K mg x qual st ps fns C fI fd ∧ FnOk P w K mg base CX0 k fI fd ps sp
theorem passF {X : Cx} : Passes (L2.CX X.prog X.w) X E0 := fun _ _ _ _ _ _ _ h => by
  obtain ⟨_, _, _, _, _, _, _, _, _, _, _, _, z⟩ := h
  exact z.elim
/-- what a try tells of an error: the word, its code, then its fields as Fl says -/
def TTry (K : PySem.W.Frag) (mg : Str → Option Value) (Fl : Str → List (Str × V) → List V → Prop) : (XK → Hp → VK → Prop) → Hp → VK → Prop := fun tl H Q =>
  tl (fun cls d H' => ∃ code fs ws, IsExc K mg code fs cls d H' ∧ Fl code fs ws ∧ ws.length ≤ 1000 ∧ ∀ r H'', Same H' H'' → H' r = none → H'' r = some (.tup (.str "no" :: .str code :: ws)) → Q (.ref r) H'')
    H fun v H1 => ([.str "told", v] : List V).length ≤ sizeLine ∧ ∀ r, H1 r = none → Q (.ref r) (upd H1 r (.tup [.str "told", v]))
/-- the fields of an error in hand, in a tuple -/
def spFields (K : PySem.W.Frag) (mg : Str → Option Value) (Fl : Str → List (Str × V) → List V → Prop) : Addr × Obj → Sp := fun p vs H Q _ => ∃ (C dd : Addr) (code : Str) (fs : List (Str × V)) (ws : List V), vs = [.ref p.1] ∧ PinX p C dd ∧ IsExc K mg code fs (.ref C) (some dd) H ∧ Fl code fs ws ∧ ws.length ≤ 1000 ∧
  ∀ r H', Same H H' → H r = none → H' r = some (.tup ws) → Q (.ref r) H'
end Th
namespace Th
open PySem PySem.Spec PyProof.Rows L2
/-! ### some objects hidden -/
open Classical in
noncomputable def hidS (S : Addr → Prop) (H : Hp) : Hp := fun b => if S b then none else H b
theorem hidS_in {S : Addr → Prop} {H : Hp} {b : Addr} (h : S b) : hidS S H b = none := if_pos h
theorem hidS_out {S : Addr → Prop} {H : Hp} {b : Addr} (h : ¬ S b) : hidS S H b = H b := if_neg h
theorem hidS_some {S : Addr → Prop} {H : Hp} {b : Addr} {o : HO} (h : hidS S H b = some o) : ¬ S b ∧ H b = some o := by
  by_cases z : S b
  · rw [hidS_in z] at h
    cases h
  · rw [hidS_out z] at h
    exact ⟨z, h⟩
theorem hidS_same {S : Addr → Prop} {H : Hp} : Same (hidS S H) H := fun _ _ h => (hidS_some h).2
theorem hidS_mono {S : Addr → Prop} {H H' : Hp} (s : Same H H') : Same (hidS S H) (hidS S H') := fun b o h => by
  obtain ⟨n, e⟩ := hidS_some h
  rw [hidS_out n]
  exact s b o e
/-- one more is hidden, which was not there -/
theorem hidS_more {S : Addr → Prop} {H H' : Hp} {L : Addr} (s : Same H H') (n : H L = none) : Same (hidS S H) (hidS (fun b => S b ∨ b = L) H') := fun b o h => by
  obtain ⟨nb, e⟩ := hidS_some h
  have nL : b ≠ L := fun z => by rw [z, n] at e; cases e
  rw [hidS_out (fun z => z.elim nb nL)]
  exact s b o e
theorem hidS_less {S : Addr → Prop} {H : Hp} {L : Addr} : Same (hidS (fun b => S b ∨ b = L) H) (hidS S H) := fun b o h => by
  obtain ⟨nb, e⟩ := hidS_some h
  rw [hidS_out fun z => nb (.inl z)]
  exact e
theorem hidS_upd {S : Addr → Prop} {H : Hp} {L : Addr} {o : HO} : hidS (fun b => S b ∨ b = L) (upd H L o) = hidS (fun b => S b ∨ b = L) H := by
  funext b
  by_cases z : S b ∨ b = L
  · rw [hidS_in z, hidS_in z]
  · rw [hidS_out z, hidS_out z, upd_ne fun e => z (.inr e)]
end Th
namespace Th
open PySem PySem.Spec PyProof.Rows L2
def tPinA (K : PySem.W.Frag) (i : Nat) (a : Addr) (cls : Value) (d : Option Addr) (n : Str) : TE := fun σ H Q => σ[i]? = some (some (.ref a)) ∧ ∃ (C dd : Addr) (fs : List (Str × V)) (v : V), cls = .ref C ∧ d = some dd ∧ XfC K C ∧ PySem.W.findIn K (.ref C) n = some none ∧ H dd = some (.xd fs) ∧ fs.lookup n = some v ∧ Q v H
def tFieldsA (K : PySem.W.Frag) (mg : Str → Option Value) (Fl : Str → List (Str × V) → List V → Prop) (i : Nat) (a : Addr) (cls : Value) (d : Option Addr) : TE := fun σ H Q => σ[i]? = some (some (.ref a)) ∧ ∃ (C dd : Addr) (code : Str) (fs : List (Str × V)) (ws : List V), cls = .ref C ∧ d = some dd ∧ IsExc K mg code fs (.ref C) (some dd) H ∧ Fl code fs ws ∧ ws.length ≤ 1000 ∧ ∀ r H', Same H H' → H r = none → H' r = some (.tup ws) → Q (.ref r) H'
section
variable {X : Cx} {a : Addr} {oe : Obj} {cls : Value} {d : Option Addr} {e : Expr} {n : Str} {i : Nat} {pos q : Pos}
/-- in the clause's suite: the caught error's field -/
theorem pe_pinA (hp : (a, oe) ∈ X.pn) (hz : Zc cls d oe) (hf : ∃ vs, oe.data = .fields vs) (he : PE X e (tVar i)) (hb : attributeBase e n X.env (eval e X.env) = eval e X.env := by rfl) :
    PE X (.Attribute e n pos) (tPinA X.K i a cls d n) := by
  constructor
  rintro pins s σ H Q I ⟨h0, C, dd, fs, v, rfl, rfl, T, nf, ed, l, hq⟩
  exact (pe_pinf hp he hb).run pins s σ H Q I ⟨_, h0, rfl, C, dd, fs, v, ⟨hz, hf⟩, T, nf, ed, l, hq⟩
/-- .. its fields, told by a def -/
theorem pe_fieldsA {Fl : Str → List (Str × V) → List V → Prop} {k : Nat} {f : Addr} {fd : FuncData} {ps : List Str} {x : Str} (hp : (a, oe) ∈ X.pn) (hz : Zc cls d oe) (hf : ∃ vs, oe.data = .fields vs) (F : FnQ X.prog X.w X.K X.mg X.base k f fd ps (spFields X.K X.mg Fl)) (hr : L2H.RoomH k X.A) (hg : Gl X x) (hm : X.mg x = some (.ref f)) (hk : PySem.W.keepIn X.K (.ref f) = true) (hb : Binds X.K fd ps [])
    (he : PA X [e] (tCons (tVar i) tNil)) (hdb : (x == ("__debug__" : Str)) = false := by decide) (hs : starEach [e] X.env = (false, eval e X.env) :: starEach [] X.env := by rfl) (hpl : (backTo pos (starEach [] X.env)).any (·.1) = false := by rfl) :
    PE X (.Call (.Name x q) [e] [] pos) (tFieldsA X.K X.mg Fl i a cls d) := by
  constructor
  rintro pins s σ H Q I ⟨h0, C, dd, code, fs, ws, rfl, rfl, E, fl, lw, hq⟩
  exact (pe_callQ (p := (a, oe)) hp F hr hg hm hk hb he hdb hs hpl).run pins s σ H Q I ⟨_, h0, C, dd, code, fs, ws, rfl, ⟨hz, hf⟩, E, fl, lw, hq⟩
end
end Th
namespace Th
open PySem PySem.Spec PyProof.Rows L2
/-- a def whose code object is known -/
theorem okC {P : Program} {w : World} {K : PySem.W.Frag} {mg : Str → Option Value} {base : Heap} {x qual : Str} {st : Stmt} {f c : Addr} {fd : FuncData} {N ps : List Str} {k : Nat} {sp : Sp} (F : Fun K x qual st f fd) (hc : fd.code = .ref c) (S : FnScope N ps (defScope st)) (len : ∀ vs H Q E, sp vs H Q E → vs.length = ps.length)
    (hbody : ∀ (A : Around) (outer : List Env) (s : Shared) (H : Hp) (vs : List V) (Q : VK) (E : XK), Room k (A.deeper (envOfC qual (defScope st) s.heap.objs.size f (.ref c))) → sp vs H Q E →
      ∃ t, PSs (cxOf CX0 P w K mg base N qual (defScope st) f (.ref c) A outer s H E).nox (defBody st) t ∧ t { nx := fun _ H' => Q .non H', rt := Q } (L2.start N vs) H) : FnOk P w K mg base CX0 (k + 1) f fd ps sp := by
  obtain ⟨oc, od, kV, doc, pm, an, cdv, ct, osl, rfl, lk, hcd⟩ := F.ex
  obtain rfl : cdv = .ref c := hc
  refine fn_of lk hcd S len fun A outer s H vs Q E hr hsp => ?_
  obtain ⟨t, h, q⟩ := hbody A outer s H vs Q E hr hsp
  exact ⟨t, h.nox, q⟩
/-- f(lambda: body), f the def that tries -/
theorem pe_try {X : Cx} {x a : Str} {st : Stmt} {g c P : Addr} {fdg : FuncData} {k : Nat} {Ng : List Str} {TT : (XK → Hp → VK → Prop) → Hp → VK → Prop} {params : Arguments} {body : Expr} {scope : Scope} {t : XK → TE} {p lpos pos : Pos} (Fg : Fun X.K x x st g fdg) (hm : X.mg x = some (.ref g)) (hb : Binds X.K fdg [a] []) (hg : Gl X x)
    (Sg : FnScope Ng [a] (defScope st)) (hNg : Ng[0]? = some a) (hva : Vis (defScope st) a) (hG : ∀ (cdg : Value), LamX.GivesTo X Ng x (defScope st) g cdg (defBody st) a (X.env.qual ++ "<lambda>") TT)
    (TB : LamX.TabB X.base X.mg c P) (hcode : X.env.code = .ref c) (hr : Room (k + 2) X.A) (L : LamX.LamS X.env.scope scope) (hdef : defaultsOf params X.env = ([], []))
    (hbind : ∀ (q : Str) (cl : List (Str × Addr)) (pm cv ctv : Value), bindArgs (PySem.W.kla_fn "<lambda>" q params body scope cl pm cv ctv) ⟨[], []⟩ = pure [])
    (hbody : ∀ (A : Around) (outer : List Env) (s : Shared) (H : Hp) (E : XK) (f c' : Addr), Room k (A.deeper (LamX.lamEnv X scope s.heap.objs.size f c')) → PE (LamX.lamCx X A outer s H E scope f c') body (t E))
    (hdb : (x == ("__debug__" : Str)) = false := by decide) (hd : (a == ("__debug__" : Str)) = false := by decide) (hcd : (a == ("__classdict__" : Str)) = false := by decide) :
    PE X (.Call (.Name x p) [.Lambda params body scope lpos] [] pos) (LamX.tLam [(P, X.env.qual ++ "<lambda>")] TT t) := by
  obtain ⟨oc, od, kV, doc, pm, an, cdv, ct, osl, rfl, lk, hco⟩ := Fg.ex
  exact LamX.pe_lamcall (T := [(P, X.env.qual ++ "<lambda>")]) hg hm Fg.kp lk hco hb Sg hNg hva (hG _) TB hcode (List.mem_singleton.mpr rfl) (fun p hp _ => by rw [List.mem_singleton.mp hp]) hr L hdef hbind hbody hdb hd hcd
end Th
/-! x in a tuple, x any datum -/
namespace L2
open PySem PySem.Spec PyProof.Rows
theorem hu65 {A : Around} {k : Nat} (hr : Room k A) : A.units + 65 < cLine := by
  have := hr.un
  omega
def rInT (K : PySem.W.Frag) (neg : Bool) : R2 := fun x y H Q => ∃ d ds, Dp K H x d ∧ Dp K H y (.tuple ds) ∧ SeqAt.shaped d = true ∧ SeqAt.shaped (.tuple ds) = true ∧ Q (.bl (if neg then !ds.any fun z => PyData.eqv z d else ds.any fun z => PyData.eqv z d)) H
section
variable {X : Cx}
theorem op_inT (hu : X.A.units + 65 < cLine) : OpR X (compareOp .In) (rInT X.K false) := by
  intro pins s σ H x y v u Q I rx ry h
  obtain ⟨d, ds, hd, he, sd, se, q⟩ := h
  obtain ⟨as, r1⟩ := Dp.reads I d x v hd rx
  obtain ⟨bs, r2⟩ := Dp.reads I (.tuple ds) y u he ry
  exact SeqAt.in_tuple_reads r2 r1 (SeqAt.canLay_of_shaped se) (SeqAt.canLay_of_shaped sd) (room_in_shaped sd hu) ⟨.bl _, H, I, rfl, q⟩
theorem op_notInT (hu : X.A.units + 65 < cLine) : OpR X (compareOp .NotIn) (rInT X.K true) := by
  intro pins s σ H x y v u Q I rx ry h
  obtain ⟨d, ds, hd, he, sd, se, q⟩ := h
  obtain ⟨as, r1⟩ := Dp.reads I d x v hd rx
  obtain ⟨bs, r2⟩ := Dp.reads I (.tuple ds) y u he ry
  exact SeqAt.notIn_tuple_reads r2 r1 (SeqAt.canLay_of_shaped se) (SeqAt.canLay_of_shaped sd) (room_in_shaped sd hu) ⟨.bl _, H, I, rfl, q⟩
end
end L2
namespace Th
open PySem PySem.Spec PyProof.Rows L2
/-- a datum is one of these texts -/
def inNm (d : PyData) (xs : List Str) : Bool := match d with
  | .str x => decide (x ∈ xs)
  | _ => false
theorem any_nm (d : PyData) (nd : tyD d ≠ "dict") : ∀ xs : List Str, ((xs.map PyData.str).any fun z => PyData.eqv z d) = inNm d xs
  | [] => by cases d <;> rfl
  | x :: r => by
    rw [List.map_cons, List.any_cons, any_nm d nd r]
    cases d with
    | dict kvs => exact absurd rfl nd
    | str y =>
      have e : PyData.eqv (.str x) (.str y) = decide (x = y) := by
        have e2 : (x == y) = decide (x = y) := by rw [Bool.eq_iff_iff, beq_iff_eq, decide_eq_true_eq]
        rw [← e2]
        simp [PyData.eqv]
      rw [e]
      show (decide (x = y) || decide (y ∈ r)) = decide (y ∈ x :: r)
      by_cases h : x = y
      · simp [h]
      · have h' : ¬ y = x := fun z => h z.symm
        simp [h, h']
    | none => simp [PyData.eqv, inNm]
    | bool b => simp [PyData.eqv, inNm]
    | int b => simp [PyData.eqv, inNm]
    | list b => simp [PyData.eqv, inNm]
    | tuple b => simp [PyData.eqv, inNm]
end Th
/-! for i, x in enumerate(t), t a tuple -/
namespace PySem
namespace XG
open Sem (wp)
abbrev enumO (it : Addr) : Obj := { cls := .type "enumerate", data := .fields #[.none, .bool false, .ref it, rawInt 0, .none, .none] }
theorem meets_enum1 {v : Value} {o : Obj} {H : Heap → Prop} (B : Begins v o H) :
    Meets (Builtin.«enumerate.__new__» ⟨[.type "enumerate", v], []⟩) (fun _ R s => H s.heap ∧ R (.ok (.ret (.ref (s.heap.push o).objs.size))) { s with heap := (s.heap.push o).push (enumO s.heap.objs.size) }) :=
  .of_wp fun prog w A R s hh => by
    obtain ⟨hp, g, d, tk, os⟩ := s
    obtain ⟨h0, hr⟩ := hh
    have hsub := sub_enumerate
    have starts : ∀ {A' : Around} {E : Value → Shared → Prop} {Q : Value → Shared → Prop}, Q (.ref hp.objs.size) ⟨hp.push o, g, d, tk, os⟩ → wpAny (model prog w) A' (pyIter v) Q E ⟨hp, g, d, tk, os⟩ := fun q => B.iter prog w _ _ ⟨hp, g, d, tk, os⟩ _ h0 q
    wp_walk using starts
    refine wpAny_stack_any fun st => wpAny_pure ?_
    split
    case h_1 c _ _ _ _ _ =>
      cases (c == Value.type "enumerate") <;> (wp_walk using starts; exact ⟨_, rfl, hr⟩)
    case h_2 =>
      wp_walk using starts
      exact ⟨_, rfl, hr⟩
theorem call_enum1 {prog : Program} {w : World} {A : Around} {E : Value → Shared → Prop} {s : Shared} {v : Value} {o : Obj} {H : Heap → Prop} {Q : Value → Shared → Prop} (B : Begins v o H) (h0 : H s.heap)
    (h : ∀ h', IsEnum h' (s.heap.objs.size + 1) s.heap.objs.size 0 .none → h'.get? s.heap.objs.size = some o → (∀ b u, s.heap.get? b = some u → h'.get? b = some u) → Q (.ref (s.heap.objs.size + 1)) { s with heap := h' }) :
    wpAny (model prog w) A (call (.type "enumerate") [v]) Q E s := by
  refine callType_new F.called_enumerate (by decide) (F.typeCall_enumerate_1 _) (F.newCall_enumerate_1 _) (fun obj => F.args_object_init_2 obj _) F.entry_enumerate_new (meets_enum1 B) ⟨h0, ?_⟩
  have size : (s.heap.push o).objs.size = s.heap.objs.size + 1 := Heap.size_push ..
  have en : ((s.heap.push o).push (enumO s.heap.objs.size)).get? (s.heap.objs.size + 1) = some (enumO s.heap.objs.size) := by
    rw [← size]
    exact Heap.get?_push_size (s.heap.push o) (o := enumO s.heap.objs.size) rfl
  show _ ∧ _
  rw [size]
  exact ⟨⟨_, en, rfl⟩, h _ en (Heap.get?_push_of_some _ (Heap.get?_push_size _ B.free)) fun b u q => Heap.get?_push_of_some _ (Heap.get?_push_of_some _ q)⟩
end XG
end PySem
namespace L2
open PySem PySem.Spec PyProof.Rows
/-- the tuple at a, each item in a new pair with its place -/
def IteT (K : PySem.W.Frag) (a : Addr) : It :=
  ⟨fun i H => ∃ (xs : List V) (x : V), SqT K H a xs ∧ xs[i]? = some x, fun i H v H' => ∃ T x, v = .ref T ∧ H T = none ∧ H' = upd H T (.tup [.int (i : Nat), x]) ∧ ∀ xs, SqT K H a xs → xs[i]? = some x, fun i H => ∃ xs : List V, SqT K H a xs ∧ xs.length = i⟩
theorem turn_enumT {P : Program} {w : World} {K : PySem.W.Frag} {elts : List Expr} {kk : Nat} {tpos : Pos} (a e it : Addr) :
    Turn P w K (.Tuple elts kk tpos) (IteT K a) [e, it] e (fun i h => (∃ old, IsEnum h e it ((i : Nat) : Int) old) ∧ h.IsTupleIter it a i ∧ e ≠ it) where
  mem := List.mem_cons_self
  obj := fun i h st b hb => by
    obtain ⟨⟨old, he⟩, ⟨o, ho, _, hd⟩, _⟩ := st
    rcases List.mem_cons.mp hb with z | z
    · rw [z]
      exact ⟨_, he, fun v q => nomatch q⟩
    · rw [List.mem_singleton.mp z]
      exact ⟨o, ho, fun v q => by rw [hd] at q; cases q⟩
  keep := fun i h h' st k => by
    obtain ⟨⟨old, he⟩, hi, ne⟩ := st
    exact ⟨⟨old, k e (by simp) _ he⟩, hi.at fun o q => k it (by simp) o q, ne⟩
  item := by
    rintro X rfl rfl rfl hc i pins s σ H E I hf ⟨⟨old, he⟩, hit, ne⟩ ⟨xs, x, hq, hx⟩
    obtain ⟨its, rv, p, hz⟩ := I.tuple hq
    obtain ⟨u, hu, ru⟩ := rv.get hx
    have le : e < s.heap.objs.size := Heap.lt_size he
    have li : it < s.heap.objs.size := let ⟨_, q, _⟩ := hit; Heap.lt_size q
    have hT : s.heap.IsTuple a its.toArray := p
    have ait : a ≠ it := fun z => by
      obtain ⟨o1, q1, c1, _⟩ := hit
      obtain ⟨o2, q2, c2, _⟩ := hT
      rw [z, q1] at q2
      cases q2
      have c3 : Value.type "tuple_iterator" = Value.type "tuple" := c1.symm.trans c2
      exact absurd c3 (by decide)
    have aE : e ∉ [it, a] := fun z => by
      rcases List.mem_cons.mp z with z | z
      · exact ne z
      · rw [List.mem_singleton.mp z] at he
        obtain ⟨o2, q2, c2, _⟩ := hT
        rw [he] at q2
        cases q2
        have c3 : Value.type "enumerate" = Value.type "tuple" := c2
        exact absurd c3 (by decide)
    refine wpAny_pyNext_enum_itemD (Draws.tuple (prog := X.prog) (w := X.w) (A := X.A.in1) (show X.A.in1.handled = none from I.ok.hd hc) it a ait its.toArray) he ⟨hit, hT⟩ (by have := (List.getElem?_eq_some_iff.mp hu).1; simpa using this) ne aE fun y h' tk hy ho hs2 hnew hsz hk => ?_
    have ey : y = u := by
      have z1 : its.toArray[i]? = some y := hy
      have z2 : its.toArray[i]? = some u := by simpa using hu
      rw [z1] at z2
      exact Option.some.inj z2
    subst ey
    refine ⟨_, rfl, wpAny_letOwnedTupleGo_enum (s := { s with heap := h', toks := tk + 1 }) ho fun h2 he2 sb => ?_⟩
    have stands : h2.get? s.heap.objs.size = some { cls := .type "tuple", data := .seq #[.int i tk, y] } := (sb.2 _ (Nat.ne_of_gt le)).trans hnew
    have new : ObjOk X.prog X.w (upd H s.heap.objs.size (.tup [.int (i : Nat), x])) h2 s.heap.objs.size (.tup [.int (i : Nat), x]) :=
      ⟨by show 2 ≤ sizeLine; decide, [.int i tk, y], .cons ⟨_, rfl⟩ (.cons ru .nil), ⟨_, stands, rfl, _, rfl⟩⟩
    have fresh : H s.heap.objs.size = none := I.hok.fresh (Nat.le_refl _)
    have I1 : Inv X pins σ (upd H s.heap.objs.size (.tup [.int (i : Nat), x])) { s with heap := h2, toks := tk + 1 } :=
      I.turnedNew (ch := [e, it]) (fun b ob hb q => (sb.2 b (fun z => hb (by simp [z]))).trans (hk b ob (fun z => hb (by simp [z])) (fun z => hb (by simp [z])) q)) hf (Nat.le_refl _) new
    refine ⟨.ref s.heap.objs.size, _, I1, rfl, ⟨_, x, rfl, fresh, rfl, fun ys hy2 => ?_⟩, ⟨⟨y, ?_⟩, ?_, ne⟩, fun b hb => ?_⟩
    · rw [I.tuple_inj hy2 hq]
      exact hx
    · rw [show ((i + 1 : Nat) : Int) = (i : Int) + 1 by omega]
      exact he2
    · exact hs2.1.at fun o q => (sb.2 it (Ne.symm ne)).trans q
    · have lb : b < s.heap.objs.size := by
        rcases List.mem_cons.mp hb with z | z
        · rw [z]; exact le
        · rw [List.mem_singleton.mp z]; exact li
      rw [upd_ne (Nat.ne_of_lt lb)]
      exact (hf b hb).1
  done := by
    rintro X rfl rfl rfl hc i pins s σ H E I hf ⟨⟨old, he⟩, hit, ne⟩ ⟨xs, hq, hx⟩
    obtain ⟨its, rv, p, hz⟩ := I.tuple hq
    have hT : s.heap.IsTuple a its.toArray := p
    have hl : i = its.toArray.size := by rw [← hx, rv.length, List.size_toArray]
    obtain ⟨f0, f1, f2, f3, f4, f5⟩ := hf it (by simp)
    have ait : a ≠ it := fun z => by
      obtain ⟨o1, q1, c1, _⟩ := hit
      obtain ⟨o2, q2, c2, _⟩ := hT
      rw [z, q1] at q2
      cases q2
      have c3 : Value.type "tuple_iterator" = Value.type "tuple" := c1.symm.trans c2
      exact absurd c3 (by decide)
    rw [hl] at he hit
    exact wpAny_pyNext_enum_endD (Draws.tuple (prog := X.prog) (w := X.w) (A := X.A.in1) (show X.A.in1.handled = none from I.ok.hd hc) it a ait its.toArray) he ⟨hit, hT⟩ fun h' eb => ⟨rfl, I.turned (t' := s.toks) (fun b o hb q => eb b o hb q) f0 f1 f3 f4 f5⟩
  self := fun A i s Q E st h => let ⟨⟨_, he⟩, _⟩ := st; wpAny_pyIter_enum he h
def iEnumT (K : PySem.W.Frag) (ta : TA) : TI := fun σ H R => ta σ H fun vs H1 => ∃ a xs, vs = [.ref a] ∧ ((SqL K H1 a xs ∧ R (Ite K a) H1) ∨ (SqT K H1 a xs ∧ R (IteT K a) H1))
/-- enumerate of a list or a tuple -/
theorem pi_enumLT {X : Cx} {e : Expr} {ta : TA} {p pos tpos : Pos} {elts : List Expr} {kk : Nat} (hg : Gl X "enumerate") (hm : X.mg "enumerate" = none) (ha : PA X [e] ta) (hs : starEach [e] X.env = [(false, eval e X.env)] := by rfl) :
    PI X (.Tuple elts kk tpos) (.Call (.Name "enumerate" p) [e] [] pos) (iEnumT X.K ta) := by
  constructor
  intro pins s σ H R I h
  refine Call_ (ld_blt I hg hm boot_enumerate (PyProof.Rows.callWith_type1 (thn (ha.run pos pins s σ H _ I h) fun us s1 hu => ?_) hs rfl))
  obtain ⟨vs, H1, I1, r1, a, xs, ex, q⟩ := hu
  subst ex
  rw [Vals.ref1 r1]
  have new : ∀ b ∈ [s1.heap.objs.size + 1, s1.heap.objs.size], s1.heap.objs.size ≤ b := fun b hb => by
    rcases List.mem_cons.mp hb with z | z
    · rw [z]; exact Nat.le_add_right _ _
    · rw [List.mem_singleton.mp z]; exact Nat.le_refl _
  rcases q with ⟨hq, q⟩ | ⟨hq, q⟩
  · obtain ⟨its, rv, p', hz⟩ := I1.list hq
    refine call_enumerate_list p'.isList fun h' he hit hsz hk => wpAny_pyIter_enum he ?_
    exact ⟨s1.heap.objs.size + 1, [s1.heap.objs.size + 1, s1.heap.objs.size], _, _, H1, rfl, I1.kept (t' := s1.toks) hk, turn_enum a (s1.heap.objs.size + 1) s1.heap.objs.size, ⟨⟨.none, he⟩, hit, Nat.succ_ne_self _⟩, fun b hb => I1.fpOk (new b hb) (I1.hok.fresh (new b hb)), q⟩
  · obtain ⟨its, rv, p', hz⟩ := I1.tuple hq
    have hT : s1.heap.IsTuple a its.toArray := p'
    refine PySem.XG.call_enum1 (begins_tuple a its.toArray) hT fun h' he hit hk => wpAny_pyIter_enum he ?_
    exact ⟨s1.heap.objs.size + 1, [s1.heap.objs.size + 1, s1.heap.objs.size], _, _, H1, rfl, I1.kept (t' := s1.toks) hk, turn_enumT a (s1.heap.objs.size + 1) s1.heap.objs.size, ⟨⟨.none, he⟩, ⟨_, hit, rfl, rfl⟩, Nat.succ_ne_self _⟩, fun b hb => I1.fpOk (new b hb) (I1.hok.fresh (new b hb)), q⟩
end L2
namespace L2
open PySem PySem.Spec PyProof.Rows
theorem walk_enumT {K : PySem.W.Frag} {a : Addr} {xs : List V} : Walk (IteT K a) xs.length (fun H => SqT K H a xs) (YPair (fun i => some (.int (i : Nat))) (fun i => xs[i]?)) where
  goes := fun i H hi h => ⟨xs, xs[i], h, List.getElem?_eq_getElem hi⟩
  stops := fun H h => ⟨xs, h, rfl⟩
  yields := fun i H v H' hi h y => by
    obtain ⟨T, x, e1, e2, e3, e4⟩ := y
    exact ⟨T, _, x, e1, e2, e3, rfl, e4 xs h⟩
end L2
namespace Th
open PySem PySem.Spec PyProof.Rows L2
def topS (i : Nat) : Stmt := PySem.Challenge.pw_threeorders_k02_lots_joined_and_parted.main.body.getD i (.Pass ⟨0, 0, 0, 0⟩)
end Th
namespace Th
open PySem PySem.Spec PyProof.Rows L2
abbrev s_l_start : Stmt := topS 19
theorem sc_l_start : FnScope ["_law_script", "_law_own", "_law_mixed", "_law_cell"] ["_law_script", "_law_own"] (defScope s_l_start) := ⟨rfl, rfl, rfl, by decide +kernel, rfl, by decide +kernel, by decide +kernel⟩
/-- the list that draws is made -/
def spStart (K : PySem.W.Frag) : Sp := fun vs H Q _ => ∃ (a : Addr) (ns : List Int) (own : Int), vs = [.ref a, .int own] ∧ SqL K H a (ns.map V.int) ∧ ns.length ≤ 63 ∧ 0 ≤ own ∧ own < 2147483563 ∧
  ∀ H' (D : DS), Same H H' → H D.p = none → H D.l = none → Drw D H' → Q (.ref D.p) H'
section
variable {P : Program} {w : World} {K : PySem.W.Frag} {mg : Str → Option Value} {base : Heap}
theorem has_l_start (Z : Zs mg) (A : At K mg "_law_start" s_l_start ["_law_script", "_law_own"]) : Has P w K mg base "_law_start" s_l_start 1 ["_law_script", "_law_own"] (spStart K) := by
  obtain ⟨f, fd, F, mg1, bd⟩ := A
  refine ⟨f, fd, ?_, mg1, F.kp, bd, F⟩
  refine F.ok sc_l_start (fun vs H Q E h => ?_) (fun cdv A outer s H vs Q E hr h => ?_)
  · obtain ⟨a, ns, own, rfl, _⟩ := h
    rfl
  · obtain ⟨a, ns, own, rfl, hS, hlen, ho0, ho1, q⟩ := h
    refine ⟨_, (pss_cons (ps_set (i := 2) sc_l_start.nd rfl (Or.inl rfl) (pv 1)) (pss_cons (ps_for PassesOwn.never rfl (pi_list (pe_slice sl_list (pv 0) po_none (po_some pe_int))) (pg_name (i := 3) sc_l_start.nd rfl (Or.inl rfl)) (pss_one (ps_set (i := 2) sc_l_start.nd rfl (Or.inl rfl) (pe_op op_mod (pe_callTy call_int1 (by rfl) Z.int_ (by decide +kernel) (pa_cons (pe_op op_add (pe_op op_add (pe_op op_mul (pv 2) pe_int) (pe_op op_mod (pe_callTy call_int1 (by rfl) Z.int_ (by decide +kernel) (pa_cons (pv 3) pa_nil)) pe_int)) pe_int) pa_nil)) pe_int)))) (pss_one (ps_ret (pe_lst (pa_cons (pe_lc (own := [("_law_cell", 3)]) (g := gName 3) (by rfl) sc_l_start.nd (pi_list (pe_slice sl_list (pv 0) po_none (po_some pe_int))) (blkOk_by (own := [("_law_cell", 3)]) (N := ["_law_script", "_law_own", "_law_mixed", "_law_cell"]) (sc := defScope s_l_start) (by decide +kernel)) (fun _ _ _ _ _ => pg_name (i := 3) sc_l_start.nd rfl (Or.inl rfl)) (fun _ _ _ _ _ => pts_nil) (fun _ _ _ _ _ => (pe_callTy call_int1 (by rfl) Z.int_ (by decide +kernel) (pa_cons (pv 3) pa_nil)))) (pa_cons pe_int (pa_cons pe_int (pa_cons (pv 2) (pa_cons pe_int pa_nil)))))))))), ?_⟩
    have hl : (ns.map V.int).length ≤ 63 := by rw [List.length_map]; exact hlen
    -- the first number, then a turn for each cell
    refine ⟨_, rfl, _, rfl, 63, rfl, a, ns.map V.int, rfl, hS, fun c nc => ?_⟩
    rw [cut_none _ hl]
    have s1 : Same H (upd H c (.lst (ns.map V.int))) := same_new nc
    refine ⟨c, rfl, ⟨ns.map V.int, .inl (.inl upd_same)⟩, for_list (K := K) (a := c) (xs := ns.map V.int) (fun i σ H2 => ∃ (m : Int) (y : Option V), σ = [some (.ref a), some (.int own), some (.int m), y] ∧ Same H H2 ∧ H2 c = some (.lst (ns.map V.int)) ∧ 0 ≤ m ∧ m < 2147483563)
      ⟨own, none, rfl, s1, upd_same, ho0, ho1⟩ (fun i σ H2 _ ⟨_, _, _, _, e, _⟩ => .inl (.inl e)) ?_ ?_⟩
    · rintro i y σ H2 hi ⟨m, y', rfl, s2, e2, m0, m1⟩
      obtain ⟨z, _, rfl⟩ := getmap hi
      refine ⟨_, rfl, _, _, rfl, rfl, .inl ⟨by omega, by omega⟩, _, rfl, .inl ⟨_, rfl, _, _, rfl, rfl, (by show (0 : Int) < 2147483549; decide), _, _, rfl, rfl, _, _, rfl, rfl, .inl ⟨_, rfl, _, _, rfl, rfl, (by show (0 : Int) < 2147483563; decide), ?_⟩⟩⟩
      exact ⟨_, _, rfl, s2, e2, Int.emod_nonneg _ (by decide), Int.emod_lt_of_pos _ (by decide)⟩
    · rintro σ H2 ⟨m, y', rfl, s2, e2, m0, m1⟩
      -- the list's copy, and the list that draws
      refine ⟨_, rfl, 63, rfl, a, ns.map V.int, rfl, s2.seq hS, fun c2 nc2 => ?_⟩
      rw [cut_none _ hl]
      have s3 : Same H (upd H2 c2 (.lst (ns.map V.int))) := s2.trans (same_new nc2)
      refine ⟨c2, rfl, ⟨_, .inl (.inl upd_same)⟩, fun l nl => ?_⟩
      have ncl : c2 ≠ l := fun e => by rw [← e, upd_same] at nl; cases nl
      refine lc_list (K := K) (a := c2) (xs := ns.map V.int) (fun i H3 => Same H H3 ∧ H3 c2 = some (.lst (ns.map V.int)) ∧ H3 l = some (.lst ((ns.take i).map V.int)))
        ⟨s3.trans (same_new nl), by rw [upd_ne ncl]; exact upd_same, upd_same⟩ (fun i H3 _ ⟨_, e, _⟩ => .inl (.inl e)) ?_ ?_
      · rintro i y H3 hi ⟨s4, e4, e5⟩
        obtain ⟨z, hz, rfl⟩ := getmap hi
        have hz' := lt_of_get hz
        refine ⟨rfl, _, rfl, .inl ⟨_, rfl, _, e5, slineL (by rw [List.length_map, List.length_take]; omega), ?_⟩⟩
        refine ⟨same_mut s4 (s3.free nl), by rw [upd_ne ncl]; exact e4, ?_⟩
        rw [upd_same, take_succ_map hz]
      · rintro H3 ⟨s4, e4, e5⟩
        rw [List.length_map, List.take_length] at e5
        refine ⟨_, rfl, (by show 5 ≤ sizeLine; decide), fun p np => ?_⟩
        refine q _ ⟨p, l, ns⟩ (s4.trans (same_new np)) (s4.free np) (s3.free nl) ⟨ne_of_none e5 np, ?_, hlen, 0, 0, m, 0, upd_same, by decide, by decide, m0, by omega, by decide⟩
        rw [upd_ne (ne_of_none e5 np)]
        exact e5
end
end Th
namespace Th
open PySem PySem.Spec PyProof.Rows L2
abbrev s_l_draw : Stmt := topS 20
theorem sc_l_draw : FnScope ["_law_state", "_law_many", "_law_cell", "_law_digit", "_law_base"] ["_law_state", "_law_many"] (defScope s_l_draw) := ⟨rfl, rfl, rfl, by decide +kernel, rfl, by decide +kernel, by decide +kernel⟩
/-- a number below n is drawn -/
def spDraw : Sp := fun vs H Q _ => ∃ (D : DS) (n : Int), vs = [.ref D.p, .int n] ∧ Drw D H ∧ 0 < n ∧ n < 1073741824 ∧ ∀ (r : Int) H', 0 ≤ r → r < n → Go D H H' → Q (.int r) H'
/-- the list that draws holds other numbers -/
theorem Go.put {D : DS} {H : Hp} (ne : D.l ≠ D.p) (sc : H D.l = some (.lst (D.ns.map V.int))) (few : D.ns.length ≤ 63) {xs : List V} (st : H D.p = some (.lst xs)) {H' : Hp} {i v m c : Int} (e : H' = upd H D.p (.lst [.ref D.l, .int i, .int v, .int m, .int c]))
    (hi : 0 ≤ i) (hv : 0 ≤ v) (m0 : 0 ≤ m) (m1 : m < 2147483648) (hc : 0 ≤ c) : Go D H H' := by
  subst e
  refine ⟨fun a o h => ?_, ne, ?_, few, i, v, m, c, upd_same, hi, hv, m0, m1, hc⟩
  · obtain ⟨z, h⟩ := hid_some h
    rw [hid_ne z, upd_ne z]
    exact h
  · rw [upd_ne ne]
    exact sc
section
variable {P : Program} {w : World} {K : PySem.W.Frag} {mg : Str → Option Value} {base : Heap}
theorem has_l_draw (Z : Zs mg) (A : At K mg "_law_draw" s_l_draw ["_law_state", "_law_many"]) : Has P w K mg base "_law_draw" s_l_draw 1 ["_law_state", "_law_many"] (spDraw) := by
  obtain ⟨f, fd, F, mg1, bd⟩ := A
  refine ⟨f, fd, ?_, mg1, F.kp, bd, F⟩
  refine F.ok sc_l_draw (fun vs H Q E h => ?_) (fun cdv A outer s H vs Q E hr h => ?_)
  · obtain ⟨D, n, rfl, _⟩ := h
    rfl
  · obtain ⟨D, n, rfl, d, n0, n1, q⟩ := h
    obtain ⟨ne, sc, few, i, v, m, c, st, hi, hv, m0, m1, hc⟩ := id d
    refine ⟨_, (C8.pss_cut (ps_if (PW.pt (pw_and (pt_cmpR op_eq (pe_ix ix_list (pv 0) pe_int (fun _ _ => rfl)) pe_int (nomark _)) (pw_and1 (pt_cmpR op_lt (pe_ix ix_list (pv 0) pe_int (fun _ _ => rfl)) (pe_callB call_len_seq (by rfl) Z.len_ (by decide +kernel) (pa_cons (pe_ix ix_list (pv 0) pe_int (fun _ _ => rfl)) pa_nil)) (nomark _))))) (pss_cons (ps_set (i := 2) sc_l_draw.nd rfl (Or.inl rfl) (pe_ix ix_list (pe_ix ix_list (pv 0) pe_int (fun _ _ => rfl)) (pe_ix ix_list (pv 0) pe_int (fun _ _ => rfl)) (fun _ _ => rfl))) (pss_cons (ps_asg (pe_op op_add (pe_ix ix_list (pv 0) pe_int (fun _ _ => rfl)) pe_int) (pg_sub (pv 0) pe_int set_list)) (pss_one (ps_if (pt_cmpR op_ge (pe_callB call_abs (by rfl) Z.abs_ (by decide +kernel) (pa_cons (pv 2) pa_nil)) (pe_op op_pow pe_int pe_int) (nomark _)) (pss_one (ps_asg (pe_callB call_abs (by rfl) Z.abs_ (by decide +kernel) (pa_cons (pv 2) pa_nil)) (pg_sub (pv 0) pe_int set_list))) pss_nil)))) pss_nil) (pss_cons (ps_if (pt_cmpR op_gt (pe_ix ix_list (pv 0) pe_int (fun _ _ => rfl)) pe_int (nomark _)) (pss_cons (ps_set (i := 3) sc_l_draw.nd rfl (Or.inl rfl) (pe_op op_mod (pe_callTy call_int1 (by rfl) Z.int_ (by decide +kernel) (pa_cons (pe_ix ix_list (pv 0) pe_int (fun _ _ => rfl)) pa_nil)) (pv 1))) (pss_cons (ps_asg (pe_op op_fdiv (pe_callTy call_int1 (by rfl) Z.int_ (by decide +kernel) (pa_cons (pe_ix ix_list (pv 0) pe_int (fun _ _ => rfl)) pa_nil)) (pv 1)) (pg_sub (pv 0) pe_int set_list)) (pss_one (ps_ret (pv 3))))) pss_nil) (pss_cons (ps_asg (pe_op op_add (pe_ix ix_list (pv 0) pe_int (fun _ _ => rfl)) pe_int) (pg_sub (pv 0) pe_int set_list)) (pss_cons (ps_set (i := 4) sc_l_draw.nd rfl (Or.inl rfl) (pe_op op_mod (pe_callTy call_int1 (by rfl) Z.int_ (by decide +kernel) (pa_cons (pe_op op_add (pe_ix ix_list (pv 0) pe_int (fun _ _ => rfl)) (pe_op op_mul (pe_ix ix_list (pv 0) pe_int (fun _ _ => rfl)) pe_int)) pa_nil)) pe_int)) (pss_cons (ps_asg (pe_op op_mod (pe_callTy call_int1 (by rfl) Z.int_ (by decide +kernel) (pa_cons (pe_op op_add (pe_op op_add (pe_op op_pow (pv 4) pe_int) (pe_op op_mul pe_int (pv 4))) pe_int) pa_nil)) pe_int) (pg_sub (pv 0) pe_int set_list)) (pss_one (ps_ret (pe_op op_mod (pe_callTy call_int1 (by rfl) Z.int_ (by decide +kernel) (pa_cons (pe_op op_add (pe_op op_fdiv (pe_ix ix_list (pv 0) pe_int (fun _ _ => rfl)) pe_int) (pe_op op_mul (pe_op op_mod (pe_callTy call_int1 (by rfl) Z.int_ (by decide +kernel) (pa_cons (pe_ix ix_list (pv 0) pe_int (fun _ _ => rfl)) pa_nil)) pe_int) pe_int)) pa_nil)) (pv 1))))))))), ?_⟩
    have ix0 : ∀ i v m c : Int, atI [V.ref D.l, .int i, .int v, .int m, .int c] 0 = some (.ref D.l) := fun _ _ _ _ => rfl
    have ix1 : ∀ i v m c : Int, atI [V.ref D.l, .int i, .int v, .int m, .int c] 1 = some (.int i) := fun _ _ _ _ => rfl
    have ix2 : ∀ i v m c : Int, atI [V.ref D.l, .int i, .int v, .int m, .int c] 2 = some (.int v) := fun _ _ _ _ => rfl
    have ix3 : ∀ i v m c : Int, atI [V.ref D.l, .int i, .int v, .int m, .int c] 3 = some (.int m) := fun _ _ _ _ => rfl
    have ix4 : ∀ i v m c : Int, atI [V.ref D.l, .int i, .int v, .int m, .int c] 4 = some (.int c) := fun _ _ _ _ => rfl
    refine ⟨fun σ H1 => ∃ (i v : Int) (y : Option V), σ = [some (.ref D.p), some (.int n), y, none, none] ∧ H1 D.p = some (.lst [.ref D.l, .int i, .int v, .int m, .int c]) ∧ H1 D.l = some (.lst (D.ns.map V.int)) ∧ Go D H H1 ∧ 0 ≤ i ∧ 0 ≤ v, ?_, ?_⟩
    · -- a cell of the script is taken, or not
      have stay : ∃ (i v : Int) (y : Option V), [some (V.ref D.p), some (V.int n), none, none, none] = [some (.ref D.p), some (.int n), y, none, none] ∧ H D.p = some (.lst [.ref D.l, .int i, .int v, .int m, .int c]) ∧ H D.l = some (.lst (D.ns.map V.int)) ∧ Go D H H ∧ 0 ≤ i ∧ 0 ≤ v :=
        ⟨i, v, none, rfl, st, sc, .refl d, hi, hv⟩
      refine ⟨_, rfl, D.p, _, _, _, rfl, rfl, .inl (.inl st), ix2 _ _ _ _, rfl, _, rfl, ?_⟩
      refine ite2 (fun hv0 => ?_) (fun hv0 => iteF stay)
      refine ⟨_, rfl, D.p, _, _, _, rfl, rfl, .inl (.inl st), ix1 _ _ _ _, _, rfl, D.p, _, _, _, rfl, rfl, .inl (.inl st), ix0 _ _ _ _, D.l, _, rfl, .inl (.inl (.inl sc)), _, _, rfl, rfl, _, rfl, ?_⟩
      refine ite2 (fun hi1 => ?_) (fun hi1 => stay)
      have hi2 : i < D.ns.length := by
        have := of_decide_eq_true hi1
        rw [List.length_map] at this
        exact this
      obtain ⟨z, hz⟩ : ∃ z, D.ns[i.toNat]? = some z := ⟨_, List.getElem?_eq_getElem (by omega)⟩
      -- cell = state[0][state[1]]
      refine ⟨_, rfl, D.p, _, _, _, rfl, rfl, .inl (.inl st), ix0 _ _ _ _, _, rfl, D.p, _, _, _, rfl, rfl, .inl (.inl st), ix1 _ _ _ _, D.l, _, _, _, rfl, rfl, .inl (.inl sc), atI_of hi (by rw [List.getElem?_map, hz]; rfl), ?_⟩
      -- state[1] = state[1] + 1
      refine ⟨_, rfl, D.p, _, _, _, rfl, rfl, .inl (.inl st), ix1 _ _ _ _, _, _, rfl, rfl, _, rfl, D.p, _, _, 1, rfl, rfl, st, rfl, ?_⟩
      have g1 : Go D H (upd H D.p (.lst [V.ref D.l, .int (i + 1), .int v, .int m, .int c])) := Go.put ne sc few st rfl (by omega) hv m0 m1 hc
      have e1 : (upd H D.p (.lst [V.ref D.l, .int (i + 1), .int v, .int m, .int c])) D.l = some (.lst (D.ns.map V.int)) := by rw [upd_ne ne]; exact sc
      -- if abs(cell) is great
      refine ⟨_, rfl, _, rfl, _, _, rfl, rfl, ⟨by decide, by decide, by decide⟩, _, _, rfl, rfl, _, rfl, ?_⟩
      refine ite2 (fun hb => ?_) (fun hb => ?_)
      · refine ⟨_, rfl, _, rfl, _, rfl, D.p, _, _, 2, rfl, rfl, upd_same, rfl, ?_⟩
        rw [upd_upd]
        have hz0 : 0 ≤ (if z < 0 then -z else z) := by split <;> omega
        exact ⟨i + 1, _, _, rfl, upd_same, by rw [upd_ne ne]; exact sc, Go.put ne sc few st rfl (by omega) hz0 m0 m1 hc, by omega, hz0⟩
      · exact ⟨i + 1, v, _, rfl, upd_same, e1, g1, by omega, hv⟩
    · -- a digit of the great number, or a fresh one
      rintro σ H1 ⟨i, v, y, rfl, st, sc, g, hi, hv⟩
      refine ⟨_, rfl, D.p, _, _, _, rfl, rfl, .inl (.inl st), ix2 _ _ _ _, _, _, rfl, rfl, _, rfl, ?_⟩
      refine ite2 (fun hv0 => ?_) (fun hv0 => ?_)
      · refine ⟨_, rfl, D.p, _, _, _, rfl, rfl, .inl (.inl st), ix2 _ _ _ _, .inl ⟨_, rfl, _, rfl, _, _, rfl, rfl, n0, ?_⟩⟩
        refine ⟨_, rfl, D.p, _, _, _, rfl, rfl, .inl (.inl st), ix2 _ _ _ _, .inl ⟨_, rfl, _, rfl, _, _, rfl, rfl, ⟨n0, n1⟩, _, rfl, D.p, _, _, 2, rfl, rfl, st, rfl, ?_⟩⟩
        refine ⟨_, rfl, ?_⟩
        exact q _ _ (Int.emod_nonneg _ (by omega)) (Int.emod_lt_of_pos _ n0) (g.trans (Go.put ne sc few st rfl hi (Int.ediv_nonneg hv (by omega)) m0 m1 hc))
      · -- state[4] = state[4] + 1
        refine ⟨_, rfl, D.p, _, _, _, rfl, rfl, .inl (.inl st), ix4 _ _ _ _, _, _, rfl, rfl, _, rfl, D.p, _, _, 4, rfl, rfl, st, rfl, ?_⟩
        have st2 : (upd H1 D.p (.lst [V.ref D.l, .int i, .int v, .int m, .int (c + 1)])) D.p = some (.lst [V.ref D.l, .int i, .int v, .int m, .int (c + 1)]) := upd_same
        refine ⟨_, rfl, D.p, _, _, _, rfl, rfl, .inl (.inl st2), ix3 _ _ _ _, _, rfl, D.p, _, _, _, rfl, rfl, .inl (.inl st2), ix4 _ _ _ _, _, _, rfl, rfl, .inr ⟨by decide, by decide⟩, _, _, rfl, rfl, .inl ⟨_, rfl, _, _, rfl, rfl, (by show (0 : Int) < 2147483563; decide), ?_⟩⟩
        refine ⟨_, rfl, _, _, rfl, rfl, ⟨by decide, by decide, by omega⟩, _, rfl, _, _, rfl, rfl, .inl ⟨by decide, by decide⟩, _, _, rfl, rfl, _, _, rfl, rfl, .inl ⟨_, rfl, _, _, rfl, rfl, (by show (0 : Int) < 2147483563; decide), _, rfl, D.p, _, _, 3, rfl, rfl, st2, rfl, ?_⟩⟩
        rw [upd_upd]
        have st3 : ∀ r : Int, (upd H1 D.p (.lst [V.ref D.l, .int i, .int v, .int r, .int (c + 1)])) D.p = some (.lst [V.ref D.l, .int i, .int v, .int r, .int (c + 1)]) := fun r => upd_same
        refine ⟨_, rfl, D.p, _, _, _, rfl, rfl, .inl (.inl (st3 _)), ix3 _ _ _ _, _, _, rfl, rfl, ⟨by decide, by decide⟩, _, rfl, D.p, _, _, _, rfl, rfl, .inl (.inl (st3 _)), ix3 _ _ _ _, .inl ⟨_, rfl, _, _, rfl, rfl, (by show (0 : Int) < 6047; decide), _, _, rfl, rfl, .inr ⟨by decide, by decide⟩, _, _, rfl, rfl, .inl ⟨_, rfl, _, rfl, _, _, rfl, rfl, n0, ?_⟩⟩⟩
        exact q _ _ (Int.emod_nonneg _ (by omega)) (Int.emod_lt_of_pos _ n0) (g.trans (Go.put ne sc few st rfl hi hv (Int.emod_nonneg _ (by decide)) (Int.lt_trans (Int.emod_lt_of_pos (b := 2147483563) _ (by decide)) (by decide)) (by omega)))
end
end Th
namespace Th
open PySem PySem.Spec PyProof.Rows L2
abbrev s_l_pick : Stmt := topS 21
theorem sc_l_pick : FnScope ["_law_state", "_law_pool"] ["_law_state", "_law_pool"] (defScope s_l_pick) := ⟨rfl, rfl, rfl, by decide +kernel, rfl, by decide +kernel, by decide +kernel⟩
/-- one of the things of a list -/
def spPick (K : PySem.W.Frag) : Sp := fun vs H Q _ => ∃ (D : DS) (q : Addr) (xs : List V), vs = [.ref D.p, .ref q] ∧ Drw D H ∧ SqL K (hid D.p H) q xs ∧ 0 < xs.length ∧ xs.length ≤ 1000 ∧ ∀ (i : Nat) (v : V) H', xs[i]? = some v → Go D H H' → Q v H'
section
variable {P : Program} {w : World} {K : PySem.W.Frag} {mg : Str → Option Value} {base : Heap}
theorem has_l_pick (Z : Zs mg) (A : At K mg "_law_pick" s_l_pick ["_law_state", "_law_pool"]) (h_l_draw : Has P w K mg base "_law_draw" s_l_draw 1 ["_law_state", "_law_many"] (spDraw)) : Has P w K mg base "_law_pick" s_l_pick 2 ["_law_state", "_law_pool"] (spPick K) := by
  obtain ⟨f, fd, F, mg1, bd⟩ := A
  obtain ⟨f_l_draw, fd_l_draw, G_l_draw, m_l_draw, k_l_draw, b_l_draw, F_l_draw⟩ := h_l_draw
  refine ⟨f, fd, ?_, mg1, F.kp, bd, F⟩
  refine F.ok sc_l_pick (fun vs H Q E h => ?_) (fun cdv A outer s H vs Q E hr h => ?_)
  · obtain ⟨D, p, xs, rfl, _⟩ := h
    rfl
  · obtain ⟨D, p, xs, rfl, d, hS, h0, h1, q⟩ := h
    refine ⟨_, (pss_one (ps_ret (pe_ix ix_list (pv 1) (pe_call G_l_draw (hr.mono (by decide)) (by rfl) m_l_draw k_l_draw b_l_draw .nil pass0 (pa_cons (pv 0) (pa_cons (pe_callB call_len_seq (by rfl) Z.len_ (by decide +kernel) (pa_cons (pv 1) pa_nil)) pa_nil))) (fun _ _ => rfl)))), ?_⟩
    have hA : SqL K H p xs := hid_same.seq hS
    refine ⟨_, rfl, _, rfl, _, rfl, p, xs, rfl, .inl hA, D, _, rfl, d, by omega, by omega, fun r H' r0 r1 g => ?_⟩
    obtain ⟨v, hv⟩ : ∃ v, xs[r.toNat]? = some v := ⟨_, List.getElem?_eq_getElem (by omega)⟩
    exact ⟨p, xs, r, v, rfl, rfl, hid_same.seq (g.sm.seq hS), atI_of r0 hv, q _ v H' hv g⟩
end
end Th
namespace Th
open PySem PySem.Spec PyProof.Rows L2
abbrev s_l_letters : Stmt := topS 23
theorem sc_l_letters : FnScope [] [] (defScope s_l_letters) := ⟨rfl, rfl, rfl, by decide +kernel, rfl, by decide +kernel, by decide +kernel⟩
def spLetters : Sp := fun vs H Q _ => vs = [] ∧ Q (.str abc) H
section
variable {P : Program} {w : World} {K : PySem.W.Frag} {mg : Str → Option Value} {base : Heap}
theorem has_l_letters (Z : Zs mg) (A : At K mg "_law_letters" s_l_letters []) : Has P w K mg base "_law_letters" s_l_letters 1 [] (spLetters) := by
  obtain ⟨f, fd, F, mg1, bd⟩ := A
  refine ⟨f, fd, ?_, mg1, F.kp, bd, F⟩
  refine F.ok sc_l_letters (fun vs H Q E h => ?_) (fun cdv A outer s H vs Q E hr h => ?_)
  · obtain ⟨rfl, _⟩ := h
    rfl
  · obtain ⟨rfl, q⟩ := h
    exact ⟨_, (pss_one (ps_ret pe_str)), q⟩
end
end Th
namespace Th
open PySem PySem.Spec PyProof.Rows L2
abbrev s_l_word : Stmt := topS 24
theorem sc_l_word : FnScope ["_law_state", "_law_longest", "_law_k"] ["_law_state", "_law_longest"] (defScope s_l_word) := ⟨rfl, rfl, rfl, by decide +kernel, rfl, by decide +kernel, by decide +kernel⟩
/-- a text of 1 to n small letters -/
def spWord (K : PySem.W.Frag) : Sp := fun vs H Q _ => ∃ (D : DS) (n : Int), vs = [.ref D.p, .int n] ∧ Drw D H ∧ 0 < n ∧ n ≤ 1000 ∧ ∀ (x : Str) H', Lw x → 1 ≤ x.length → (x.length : Int) ≤ n → Go D H H' → Q (.str x) H'
theorem word_len : ∀ l : List Nat, ((l.map fun k => (⟨#[let_ k]⟩ : Str)).map cs).flatten = l.map let_
  | [] => rfl
  | k :: r => by
    rw [List.map_cons, List.map_cons, List.flatten_cons, word_len r]
    rfl
theorem word_sum : ∀ l : List Nat, ((l.map fun k => (⟨#[let_ k]⟩ : Str)).map (·.length)).sum = l.length
  | [] => rfl
  | k :: r => by
    rw [List.map_cons, List.map_cons, List.sum_cons, word_sum r, List.length_cons]
    show 1 + r.length = r.length + 1
    omega
section
variable {P : Program} {w : World} {K : PySem.W.Frag} {mg : Str → Option Value} {base : Heap}
theorem has_l_word (Z : Zs mg) (A : At K mg "_law_word" s_l_word ["_law_state", "_law_longest"]) (h_l_draw : Has P w K mg base "_law_draw" s_l_draw 1 ["_law_state", "_law_many"] (spDraw)) (h_l_letters : Has P w K mg base "_law_letters" s_l_letters 1 [] (spLetters)) : Has P w K mg base "_law_word" s_l_word 2 ["_law_state", "_law_longest"] (spWord K) := by
  obtain ⟨f, fd, F, mg1, bd⟩ := A
  obtain ⟨f_l_draw, fd_l_draw, G_l_draw, m_l_draw, k_l_draw, b_l_draw, F_l_draw⟩ := h_l_draw
  obtain ⟨f_l_letters, fd_l_letters, G_l_letters, m_l_letters, k_l_letters, b_l_letters, F_l_letters⟩ := h_l_letters
  refine ⟨f, fd, ?_, mg1, F.kp, bd, F⟩
  refine F.ok sc_l_word (fun vs H Q E h => ?_) (fun cdv A outer s H vs Q E hr h => ?_)
  · obtain ⟨D, n, rfl, _⟩ := h
    rfl
  · obtain ⟨D, n, rfl, d, n0, n1, q⟩ := h
    refine ⟨_, (pss_one (ps_ret (pe_join pe_str (pe_lc (own := [("_law_k", 2)]) (g := gName 2) (by rfl) sc_l_word.nd (pi_range1 (by rfl) Z.range_ (pa_cons (pe_op op_add pe_int (pe_call G_l_draw (hr.mono (by decide)) (by rfl) m_l_draw k_l_draw b_l_draw .nil pass0 (pa_cons (pv 0) (pa_cons (pv 1) pa_nil)))) pa_nil)) (blkOk_by (own := [("_law_k", 2)]) (N := ["_law_state", "_law_longest", "_law_k"]) (sc := defScope s_l_word) (by decide +kernel)) (fun _ _ _ _ _ => pg_name (i := 2) sc_l_word.nd rfl (Or.inl rfl)) (fun _ _ _ _ _ => pts_nil) (fun _ _ _ _ _ => (pe_ix ix_str (pe_call0 G_l_letters (hr.mono (by decide)) (by rfl) m_l_letters k_l_letters b_l_letters .nil pass0) (pe_call G_l_draw (hr.mono (by decide)) (by rfl) m_l_draw k_l_draw b_l_draw .nil pass0 (pa_cons (pv 0) (pa_cons pe_int pa_nil))) (fun _ _ => rfl))))))), ?_⟩
    refine ⟨⟨_, rfl⟩, _, rfl, _, rfl, D, n, rfl, d, n0, by omega, fun r H1 r0 r1 g => ⟨_, _, rfl, rfl, _, rfl, by omega, by omega, fun L nL => ?_⟩⟩
    have nLp := g.st.ne_new nL
    refine lc_range (lo := 0) (n := (1 + r).toNat) (fun i H2 => ∃ l : List Nat, l.length = i ∧ (∀ k ∈ l, k < 26) ∧ Go D H H2 ∧ H2 L = some (.lst ((l.map fun k => (⟨#[let_ k]⟩ : Str)).map V.str)))
      ⟨[], rfl, (fun _ z => nomatch z), g.new nL, upd_same⟩ ?_ ?_
    · rintro i H2 hi ⟨l, hl, hk, g2, e2⟩
      refine ⟨rfl, rfl, _, rfl, D, 26, rfl, g2.st, by decide, by decide, fun k H3 k0 k1 g3 => ⟨abc, k, let_ k.toNat, rfl, rfl, sline_abc, atI_let k0 k1, _, g3.old nLp e2, slineL (by rw [List.length_map, List.length_map]; omega), ?_⟩⟩
      refine ⟨l ++ [k.toNat], by rw [List.length_append, hl]; rfl, fun z hz => ?_, (g2.trans g3).mut d (g.free d nL), ?_⟩
      · rcases List.mem_append.mp hz with hz | hz
        · exact hk z hz
        · rw [List.mem_singleton.mp hz]; omega
      · rw [upd_same, List.map_append, List.map_append]
        rfl
    · rintro H2 ⟨l, hl, hk, g2, e2⟩
      refine ⟨_, L, _, rfl, rfl, .inl (.inl (.inl e2)), ?_, ?_⟩
      · rw [word_sum, List.length_map, show (Str.ofString "").length = 0 from rfl]
        omega
      · have ec : cs (Txt.join (Str.ofString "") (l.map fun k => (⟨#[let_ k]⟩ : Str))) = l.map let_ := by
          unfold Txt.join
          rw [PySem.StrLaws.glued_eq_join]
          exact (cs_join _).trans (word_len l)
        refine q _ _ (fun c hc => ?_) ?_ ?_ g2
        · rw [ec] at hc
          obtain ⟨k, hk1, rfl⟩ := List.mem_map.mp hc
          exact let_mem (hk k hk1)
        · rw [cs_len, ec, List.length_map]; omega
        · rw [cs_len, ec, List.length_map]; omega
end
end Th
namespace Th
open PySem PySem.Spec PyProof.Rows L2
abbrev s_l_shuffle : Stmt := topS 22
theorem sc_l_shuffle : FnScope ["_law_state", "_law_pool", "_law_some", "_law_x"] ["_law_state", "_law_pool"] (defScope s_l_shuffle) := ⟨rfl, rfl, rfl, by decide +kernel, rfl, by decide +kernel, by decide +kernel⟩
/-- the things of a list in any order, in a new list -/
def spShuffle (K : PySem.W.Frag) : Sp := fun vs H Q _ => ∃ (D : DS) (q : Addr) (xs : List V), vs = [.ref D.p, .ref q] ∧ Drw D H ∧ SqL K (hid D.p H) q xs ∧ xs.length ≤ 1000 ∧
  ∀ (r : Addr) (ys : List V) H', ys.Perm xs → H r = none → H' r = some (.lst ys) → Go D H H' → Q (.ref r) H'
theorem ins_perm (ys : List V) (i : Nat) (v : V) : (ys.take i ++ [v] ++ ys.drop i).Perm (ys ++ [v]) := by
  have a : (ys.take i ++ [v] ++ ys.drop i).Perm (v :: (ys.take i ++ ys.drop i)) := by
    rw [List.append_assoc]
    exact List.perm_middle
  rw [List.take_append_drop] at a
  exact a.trans (List.perm_append_singleton _ _).symm
section
variable {P : Program} {w : World} {K : PySem.W.Frag} {mg : Str → Option Value} {base : Heap}
theorem has_l_shuffle (Z : Zs mg) (A : At K mg "_law_shuffle" s_l_shuffle ["_law_state", "_law_pool"]) (h_l_draw : Has P w K mg base "_law_draw" s_l_draw 1 ["_law_state", "_law_many"] (spDraw)) : Has P w K mg base "_law_shuffle" s_l_shuffle 2 ["_law_state", "_law_pool"] (spShuffle K) := by
  obtain ⟨f, fd, F, mg1, bd⟩ := A
  obtain ⟨f_l_draw, fd_l_draw, G_l_draw, m_l_draw, k_l_draw, b_l_draw, F_l_draw⟩ := h_l_draw
  refine ⟨f, fd, ?_, mg1, F.kp, bd, F⟩
  refine F.ok sc_l_shuffle (fun vs H Q E h => ?_) (fun cdv A outer s H vs Q E hr h => ?_)
  · obtain ⟨D, p, xs, rfl, _⟩ := h
    rfl
  · obtain ⟨D, p, xs, rfl, d, hS, h1, q⟩ := h
    refine ⟨_, (pss_cons (ps_set (i := 2) sc_l_shuffle.nd rfl (Or.inl rfl) (pe_lst pa_nil)) (pss_cons (ps_for PassesOwn.never rfl (pi_list (pv 1)) (pg_name (i := 3) sc_l_shuffle.nd rfl (Or.inl rfl)) (pss_one (ps_expr (pe_bm PySem.F.plainAttrs_list PySem.F.slot_list_insert PySem.F.type_list_insert mt_insert (pv 2) (pa_cons (pe_call G_l_draw (hr.mono (by decide)) (by rfl) m_l_draw k_l_draw b_l_draw .nil pass0 (pa_cons (pv 0) (pa_cons (pe_op op_add (pe_callB call_len_seq (by rfl) Z.len_ (by decide +kernel) (pa_cons (pv 2) pa_nil)) pe_int) pa_nil))) (pa_cons (pv 3) pa_nil)))))) (pss_one (ps_ret (pv 2))))), ?_⟩
    refine ⟨Nat.zero_le _, fun r nr => ?_⟩
    have nrp := d.ne_new nr
    refine ⟨_, rfl, p, rfl, ⟨xs, (same_new nr).seq (hid_same.seq hS)⟩, for_list (K := K) (a := p) (xs := xs) (fun i σ H2 => ∃ (y : Option V) (ys : List V), σ = [some (.ref D.p), some (.ref p), some (.ref r), y] ∧ Go D H H2 ∧ H2 r = some (.lst ys) ∧ ys.Perm (xs.take i))
      ⟨none, [], rfl, (Go.refl d).new nr, upd_same, List.Perm.nil⟩ (fun i σ H2 _ ⟨_, _, _, g, _⟩ => hid_same.seq (g.sm.seq hS)) ?_ ?_⟩
    · rintro i v σ H2 hi ⟨y, ys, rfl, g, er, pm⟩
      have hil := lt_of_get hi
      have hlen : ys.length = i := by rw [pm.length_eq, List.length_take]; omega
      refine ⟨_, rfl, .inl ⟨rfl, _, .inl (.inl er)⟩, _, rfl, _, rfl, r, ys, rfl, .inl (.inl (.inl er)), _, _, rfl, rfl, D, _, rfl, g.st, by omega, by omega, fun k H3 k0 k1 g3 => ?_⟩
      refine ⟨_, rfl, r, ys, k, v, rfl, rfl, g3.old nrp er, slineL (by omega), k0, by omega, ?_⟩
      refine ⟨_, _, rfl, (g.trans g3).mut d nr, upd_same, (ins_perm ys k.toNat v).trans ?_⟩
      rw [List.take_add_one, hi]
      exact pm.append_right [v]
    · rintro σ H2 ⟨y, ys, rfl, g, er, pm⟩
      rw [List.take_length] at pm
      exact ⟨_, rfl, q r ys H2 pm nr er g⟩
end
end Th
namespace Th
open PySem PySem.Spec PyProof.Rows L2
abbrev s_l_names : Stmt := topS 25
theorem sc_l_names : FnScope ["_law_state", "_law_many", "_law_first", "_law_stride", "_law_letters_here", "_law_k", "_law_signs", "_law_way", "_law_stem", "_law_spot", "_law_sign", "_law_known", "_law_some", "_law_longer", "_law_tag", "_law_spare"] ["_law_state", "_law_many"] (defScope s_l_names) := ⟨rfl, rfl, rfl, by decide +kernel, rfl, by decide +kernel, by decide +kernel⟩
/-- n names, each once, in a new list -/
def spNames (K : PySem.W.Frag) : Sp := fun vs H Q _ => ∃ (D : DS) (n : Int), vs = [.ref D.p, .int n] ∧ Drw D H ∧ 0 < n ∧ n ≤ 40 ∧ ∀ (r : Addr) (xs : List Str) H', Nms xs → (xs.length : Int) = n → H r = none → H' r = some (.lst (xs.map V.str)) → Go D H H' → Q (.ref r) H'
section
variable {P : Program} {w : World} {K : PySem.W.Frag} {mg : Str → Option Value} {base : Heap}
theorem has_l_names (Z : Zs mg) (A : At K mg "_law_names" s_l_names ["_law_state", "_law_many"]) (h_l_draw : Has P w K mg base "_law_draw" s_l_draw 1 ["_law_state", "_law_many"] (spDraw)) (h_l_pick : Has P w K mg base "_law_pick" s_l_pick 2 ["_law_state", "_law_pool"] (spPick K)) (h_l_letters : Has P w K mg base "_law_letters" s_l_letters 1 [] (spLetters)) (h_l_word : Has P w K mg base "_law_word" s_l_word 2 ["_law_state", "_law_longest"] (spWord K)) (h_l_shuffle : Has P w K mg base "_law_shuffle" s_l_shuffle 2 ["_law_state", "_law_pool"] (spShuffle K)) : Has P w K mg base "_law_names" s_l_names 3 ["_law_state", "_law_many"] (spNames K) := by
  obtain ⟨f, fd, F, mg1, bd⟩ := A
  obtain ⟨f_l_draw, fd_l_draw, G_l_draw, m_l_draw, k_l_draw, b_l_draw, F_l_draw⟩ := h_l_draw
  obtain ⟨f_l_pick, fd_l_pick, G_l_pick, m_l_pick, k_l_pick, b_l_pick, F_l_pick⟩ := h_l_pick
  obtain ⟨f_l_letters, fd_l_letters, G_l_letters, m_l_letters, k_l_letters, b_l_letters, F_l_letters⟩ := h_l_letters
  obtain ⟨f_l_word, fd_l_word, G_l_word, m_l_word, k_l_word, b_l_word, F_l_word⟩ := h_l_word
  obtain ⟨f_l_shuffle, fd_l_shuffle, G_l_shuffle, m_l_shuffle, k_l_shuffle, b_l_shuffle, F_l_shuffle⟩ := h_l_shuffle
  refine ⟨f, fd, ?_, mg1, F.kp, bd, F⟩
  refine F.ok sc_l_names (fun vs H Q E h => ?_) (fun cdv A outer s H vs Q E hr h => ?_)
  · obtain ⟨D, n, rfl, _⟩ := h
    rfl
  · obtain ⟨D, n, rfl, d, n0, n1, q⟩ := h
    refine ⟨_, (pss_cons (ps_asg (pe_tup (pa_cons (pe_call G_l_draw (hr.mono (by decide)) (by rfl) m_l_draw k_l_draw b_l_draw .nil pass0 (pa_cons (pv 0) (pa_cons pe_int pa_nil))) (pa_cons (pe_call G_l_pick (hr.mono (by decide)) (by rfl) m_l_pick k_l_pick b_l_pick .nil pass0 (pa_cons (pv 0) (pa_cons (pe_lst (pa_cons pe_int (pa_cons pe_int (pa_cons pe_int (pa_cons pe_int (pa_cons pe_int (pa_cons pe_int (pa_cons pe_int pa_nil)))))))) pa_nil))) pa_nil))) (pg_tup (by rfl) (pgs_cons (pg_name (i := 2) sc_l_names.nd rfl (Or.inr rfl)) (pgs_cons (pg_name (i := 3) sc_l_names.nd rfl (Or.inr rfl)) pgs_nil)))) (pss_cons (ps_set (i := 4) sc_l_names.nd rfl (Or.inr rfl) (pe_lc (own := [("_law_k", 5)]) (g := gName 5) (by rfl) sc_l_names.nd (pi_range1 (by rfl) Z.range_ (pa_cons (pv 1) pa_nil)) (blkOk_by (own := [("_law_k", 5)]) (N := ["_law_state", "_law_many", "_law_first", "_law_stride", "_law_letters_here", "_law_k", "_law_signs", "_law_way", "_law_stem", "_law_spot", "_law_sign", "_law_known", "_law_some", "_law_longer", "_law_tag", "_law_spare"]) (sc := defScope s_l_names) (by decide +kernel)) (fun _ _ _ _ _ => pg_name (i := 5) sc_l_names.nd rfl (Or.inl rfl)) (fun _ _ _ _ _ => pts_nil) (fun _ _ _ _ _ => (pe_ix ix_str (pe_call0 G_l_letters (hr.mono (by decide)) (by rfl) m_l_letters k_l_letters b_l_letters .nil pass0) (pe_op op_mod (pe_callTy call_int1 (by rfl) Z.int_ (by decide +kernel) (pa_cons (pe_op op_add (pv 2) (pe_op op_mod (pe_op op_mul (pv 3) (pe_callTy call_int1 (by rfl) Z.int_ (by decide +kernel) (pa_cons (pv 5) pa_nil))) pe_int)) pa_nil)) pe_int) (fun _ _ => rfl))))) (pss_cons (ps_setLc (i := 6) (own := [("_law_k", 5)]) (g := gName 5) (by rfl) sc_l_names.nd rfl rfl (sw_true rfl rfl rfl (by decide +kernel)) (pi_range1 (by rfl) Z.range_ (pa_cons (pv 1) pa_nil)) (blkOk_by (own := [("_law_k", 5)]) (N := ["_law_state", "_law_many", "_law_first", "_law_stride", "_law_letters_here", "_law_k", "_law_signs", "_law_way", "_law_stem", "_law_spot", "_law_sign", "_law_known", "_law_some", "_law_longer", "_law_tag", "_law_spare"]) (sc := defScope s_l_names) (by decide +kernel)) (fun _ _ _ _ _ => pg_name (i := 5) sc_l_names.nd rfl (Or.inl rfl)) (fun _ _ _ _ _ => pts_nil) (fun _ _ _ _ _ => (pe_op op_add_str (pe_ix (show IxR _ (rIxL K) from ix_list) (pv 4) (pv 5) (fun _ _ => rfl)) (pe_ifExp (pt_cmpR op_lt (pv 5) pe_int (nomark _)) pe_str (pe_ix ix_str (pe_call0 G_l_letters (hr.mono (by decide)) (by rfl) m_l_letters k_l_letters b_l_letters .nil pass0) (pe_op op_fdiv (pv 5) pe_int) (fun _ _ => rfl)))))) (pss_cons (ps_asg (pe_tup (pa_cons (pe_call G_l_draw (hr.mono (by decide)) (by rfl) m_l_draw k_l_draw b_l_draw .nil pass0 (pa_cons (pv 0) (pa_cons pe_int pa_nil))) (pa_cons (pe_call G_l_word (hr.mono (by decide)) (by rfl) m_l_word k_l_word b_l_word .nil pass0 (pa_cons (pv 0) (pa_cons pe_int pa_nil))) pa_nil))) (pg_tup (by rfl) (pgs_cons (pg_name (i := 7) sc_l_names.nd rfl (Or.inl rfl)) (pgs_cons (pg_name (i := 8) sc_l_names.nd rfl (Or.inr rfl)) pgs_nil)))) (pss_cons (ps_if (pt_cmpR op_eq (pv 7) pe_int (nomark _)) (pss_cons (ps_set (i := 9) sc_l_names.nd rfl (Or.inr rfl) (pe_call G_l_draw (hr.mono (by decide)) (by rfl) m_l_draw k_l_draw b_l_draw .nil pass0 (pa_cons (pv 0) (pa_cons (pe_op op_add (pe_callB call_len_str (by rfl) Z.len_ (by decide +kernel) (pa_cons (pv 8) pa_nil)) pe_int) pa_nil)))) (pss_one (ps_ret (pe_lc (own := [("_law_sign", 10)]) (g := gName 10) (by rfl) sc_l_names.nd (pi_list (pv 6)) (blkOk_by (own := [("_law_sign", 10)]) (N := ["_law_state", "_law_many", "_law_first", "_law_stride", "_law_letters_here", "_law_k", "_law_signs", "_law_way", "_law_stem", "_law_spot", "_law_sign", "_law_known", "_law_some", "_law_longer", "_law_tag", "_law_spare"]) (sc := defScope s_l_names) (by decide +kernel)) (fun _ _ _ _ _ => pg_name (i := 10) sc_l_names.nd rfl (Or.inl rfl)) (fun _ _ _ _ _ => pts_nil) (fun _ _ _ _ _ => (pe_op op_add_str (pe_op op_add_str (pe_slice sl_str (pv 8) po_none (po_some (pv 9))) (pv 10)) (pe_slice sl_str (pv 8) (po_some (pv 9)) po_none))))))) pss_nil) (pss_cons (ps_if (pt_cmpR op_eq (pv 7) pe_int (nomark _)) (pss_cons (ps_set (i := 11) sc_l_names.nd rfl (Or.inl rfl) (pe_lst (pa_cons pe_str (pa_cons pe_str (pa_cons pe_str (pa_cons pe_str (pa_cons pe_str (pa_cons pe_str (pa_cons pe_str (pa_cons pe_str (pa_cons pe_str (pa_cons pe_str (pa_cons pe_str (pa_cons pe_str pa_nil)))))))))))))) (pss_one (ps_ret (pe_call G_l_shuffle (hr.mono (by decide)) (by rfl) m_l_shuffle k_l_shuffle b_l_shuffle .nil pass0 (pa_cons (pv 0) (pa_cons (pe_slice sl_list (pe_op op_cat (pe_call G_l_shuffle (hr.mono (by decide)) (by rfl) m_l_shuffle k_l_shuffle b_l_shuffle .nil pass0 (pa_cons (pv 0) (pa_cons (pv 11) pa_nil))) (pv 6)) po_none (po_some (pv 1))) pa_nil)))))) pss_nil) (pss_cons (ps_set (i := 12) sc_l_names.nd rfl (Or.inr rfl) (pe_lst pa_nil)) (pss_cons (ps_for PassesOwn.never rfl (pi_range1 (by rfl) Z.range_ (pa_cons (pv 1) pa_nil)) (pg_name (i := 5) sc_l_names.nd rfl (Or.inl rfl)) (C8.pss_cut (ps_set (i := 13) sc_l_names.nd rfl (Or.inl rfl) (pe_and (pe_cmpR op_gt (pv 5) pe_int (nomark _)) (pe_one (pe_cmpR op_eq (pe_call G_l_draw (hr.mono (by decide)) (by rfl) m_l_draw k_l_draw b_l_draw .nil pass0 (pa_cons (pv 0) (pa_cons pe_int pa_nil))) pe_int (nomark _))))) (C8.pss_cut (ps_set (i := 14) sc_l_names.nd rfl (Or.inl rfl) (pe_ifExp (pt_val (pv 13)) (pe_slice sl_str (pe_op op_add_str (pe_ix ix_list (pv 12) (pe_call G_l_draw (hr.mono (by decide)) (by rfl) m_l_draw k_l_draw b_l_draw .nil pass0 (pa_cons (pv 0) (pa_cons (pv 5) pa_nil))) (fun _ _ => rfl)) (pe_call G_l_word (hr.mono (by decide)) (by rfl) m_l_word k_l_word b_l_word .nil pass0 (pa_cons (pv 0) (pa_cons pe_int pa_nil)))) po_none (po_some pe_int)) (pe_call G_l_word (hr.mono (by decide)) (by rfl) m_l_word k_l_word b_l_word .nil pass0 (pa_cons (pv 0) (pa_cons pe_int pa_nil))))) (pss_cons (ps_setLc (i := 15) (own := [("_law_sign", 10)]) (g := gName 10) (by rfl) sc_l_names.nd rfl rfl (sw_true rfl rfl rfl (by decide +kernel)) (pi_list (pv 6)) (blkOk_by (own := [("_law_sign", 10)]) (N := ["_law_state", "_law_many", "_law_first", "_law_stride", "_law_letters_here", "_law_k", "_law_signs", "_law_way", "_law_stem", "_law_spot", "_law_sign", "_law_known", "_law_some", "_law_longer", "_law_tag", "_law_spare"]) (sc := defScope s_l_names) (by decide +kernel)) (fun _ _ _ _ _ => pg_name (i := 10) sc_l_names.nd rfl (Or.inl rfl)) (fun _ _ _ _ _ => (pts_one (pt_cmpR (show OpR _ (compareOp .NotIn) (rIn K true) from op_notIn_seq) (pv 10) (pv 12) (by rfl)))) (fun _ _ _ _ _ => (pv 10))) (pss_one (ps_expr (pe_bm PySem.F.plainAttrs_list PySem.F.slot_list_append PySem.F.type_list_append mt_append (pv 12) (pa_cons (pe_ifExp (pt_cmpR op_in_seq (pv 14) (pv 12) (by rfl)) (pe_ix ix_list (pv 15) pe_int (fun _ _ => rfl)) (pv 14)) pa_nil)))))))) (pss_one (ps_ret (pv 12))))))))))), ?_⟩
    refine ⟨_, rfl, D, 26, rfl, d, by decide, by decide, fun a H1 a0 a1 g1 => ⟨_, rfl, (by show 7 ≤ sizeLine; decide), fun u nu => ?_⟩⟩
    have nup := g1.st.ne_new nu
    refine ⟨D, u, _, rfl, g1.st.new nu, sqh nup upd_same, by show 0 < 7; decide, by show 7 ≤ 1000; decide, fun i v H2 hv g2 => ?_⟩
    obtain ⟨b, hb, hb2, rfl⟩ := stride_of hv
    obtain ⟨a, rfl⟩ := Int.eq_ofNat_of_zero_le a0
    have ha : a < 26 := by omega
    refine ⟨(by show 2 ≤ sizeLine; decide), fun t nt => ⟨t, _, rfl, .inl (.inl upd_same), rfl, _, _, rfl, _, _, rfl, rfl, ?_⟩⟩
    have g3 := ((g1.new nu).trans g2).new (o := .tup [.int (a : Int), .int (b : Int)]) nt
    generalize upd H2 t (.tup [.int (a : Int), .int (b : Int)]) = H3 at g3 ⊢
    -- the first letters
    refine ⟨_, rfl, _, rfl, by omega, by omega, fun L nL => ?_⟩
    have nLp := g3.st.ne_new nL
    refine lc_range (lo := 0) (n := n.toNat) (fun i H4 => Go D H H4 ∧ H4 L = some (.lst ((List.range i).map fun k => V.str (sg1 a b k)))) ⟨g3.new nL, upd_same⟩ ?_ ?_
    · rintro i H4 hi ⟨g4, e4⟩
      refine ⟨rfl, rfl, _, rfl, _, rfl, _, rfl, .inl ⟨_, rfl, _, _, rfl, rfl, .inl ⟨by omega, by omega⟩, _, _, rfl, rfl, (by show (0 : Int) < 26; decide), _, _, rfl, rfl, .inl ⟨_, rfl, _, _, rfl, rfl, (by show (0 : Int) < 26; decide), abc, _, let_ ((a + b * i % 26) % 26), rfl, rfl, sline_abc, ?_, _, e4, slineL (by rw [List.length_map, List.length_range]; omega), ?_⟩⟩⟩
      · rw [ixe]
        exact atI_nat (xs := cs abc) (let_at (Nat.mod_lt _ (by decide)))
      · exact ⟨g4.mut d (g3.free d nL), by rw [upd_same, mapr]; rfl⟩
    rintro H4 ⟨g4, eL⟩
    -- the signs
    refine ⟨_, rfl, _, rfl, by omega, by omega, fun S nS => ?_⟩
    have nSp := g4.st.ne_new nS
    have nSL : L ≠ S := ne_of_none eL nS
    refine lc_range (lo := 0) (n := n.toNat) (fun i H5 => Go D H H5 ∧ H5 L = some (.lst ((List.range n.toNat).map fun k => V.str (sg1 a b k))) ∧ H5 S = some (.lst ((List.range i).map fun k => V.str (sgn a b k))))
      ⟨g4.new nS, by rw [upd_ne nSL]; exact eL, upd_same⟩ ?_ ?_
    · rintro i H5 hi ⟨g5, eL5, eS5⟩
      have lS : ((List.range i).map fun k => V.str (sgn a b k)).length < sizeLine := slineL (by rw [List.length_map, List.length_range]; omega)
      refine ⟨rfl, _, rfl, _, rfl, L, _, _, _, rfl, rfl, .inl (.inl eL5), atI_of (by omega) (by rw [show ((0 : Int) + (i : Int)).toNat = i by omega]; exact getr _ hi), _, rfl, _, _, rfl, rfl, _, rfl, ?_⟩
      have fin : ∀ H6, H6 = H5 → ∃ acc, H6 S = some (.lst acc) ∧ acc.length < sizeLine ∧ Go D H (upd H6 S (.lst (acc ++ [V.str (sgn a b i)]))) ∧ (upd H6 S (.lst (acc ++ [V.str (sgn a b i)]))) L = some (.lst ((List.range n.toNat).map fun k => V.str (sg1 a b k))) ∧
          (upd H6 S (.lst (acc ++ [V.str (sgn a b i)]))) S = some (.lst ((List.range (i + 1)).map fun k => V.str (sgn a b k))) := fun H6 e => by
        subst e
        exact ⟨_, eS5, lS, g5.mut d (g4.free d nS), by rw [upd_ne nSL]; exact eL5, by rw [upd_same, mapr]⟩
      refine ite2 (fun hk => ?_) (fun hk => ?_)
      · have hk' : i < 26 := by have := of_decide_eq_true hk; omega
        refine ⟨_, _, rfl, rfl, by show 1 + 0 ≤ sizeLine; decide, ?_⟩
        have e : sg1 a b i ++ (Str.ofString "") = sgn a b i := by
          unfold sgn
          rw [if_pos hk']
          rfl
        rw [e]
        exact fin _ rfl
      · have hk' : ¬ i < 26 := fun z => hk (decide_eq_true (by omega))
        refine ⟨rfl, _, rfl, _, _, rfl, rfl, ⟨by decide, by decide⟩, abc, _, let_ (i / 26), rfl, rfl, sline_abc, ?_, _, _, rfl, rfl, by show 1 + 1 ≤ sizeLine; decide, ?_⟩
        · rw [show ((0 : Int) + (i : Int)) / 26 = ((i / 26 : Nat) : Int) by omega]
          exact atI_nat (xs := cs abc) (let_at (by omega))
        · have e : sg1 a b i ++ (⟨#[let_ (i / 26)]⟩ : Str) = sgn a b i := by
            unfold sgn
            rw [if_neg hk']
            rfl
          rw [e]
          exact fin _ rfl
    rintro H5 ⟨g5, eL5, eS5⟩
    have eS : ((List.range n.toNat).map fun k => V.str (sgn a b k)) = (sgns a b n.toNat).map V.str := by
      unfold sgns
      rw [List.map_map]
      rfl
    rw [eS] at eS5
    clear eS eL5 nSL
    have freeS := g4.free d nS
    clear eL nS g4 nL nLp g3
    -- way, stem
    refine ⟨_, rfl, D, 4, rfl, g5.st, by decide, by decide, fun way H6 w0 w1 g6 => ⟨_, rfl, D, 4, rfl, g6.st, by decide, by decide, fun stem H7 k1 k2 k3 g7 => ?_⟩⟩
    refine ⟨(by show 2 ≤ sizeLine; decide), fun t2 nt2 => ⟨t2, _, rfl, .inl (.inl upd_same), rfl, _, _, rfl, _, _, rfl, rfl, ?_⟩⟩
    have g8 := ((g5.trans g6).trans g7).new (o := .tup [.int way, .str stem]) nt2
    have eS8 : (upd H7 t2 (.tup [.int way, .str stem])) S = some (.lst ((sgns a b n.toNat).map V.str)) := by
      have q1 := g7.old nSp (g6.old nSp eS5)
      rw [upd_ne (ne_of_none q1 nt2)]
      exact q1
    generalize upd H7 t2 (.tup [.int way, .str stem]) = H8 at g8 eS8 ⊢
    have lenS : (sgns a b n.toNat).length = n.toNat := sgns_len a b n.toNat
    have l40 : n.toNat ≤ 40 := by omega
    refine ⟨_, rfl, rfl, _, rfl, ?_⟩
    refine ite2 (fun hw => ?_) (fun hw => ?_)
    · -- a stem around each sign
      refine ⟨_, rfl, _, rfl, _, rfl, sline (by omega), _, _, rfl, rfl, D, _, rfl, g8.st, by omega, by omega, fun spot H9 s0 s1 g9 => ?_⟩
      have eS9 := g9.old nSp eS8
      refine ⟨_, rfl, S, rfl, ⟨_, .inl (.inl eS9)⟩, fun R nR => ?_⟩
      have nRp := g9.st.ne_new nR
      have nRS : S ≠ R := ne_of_none eS9 nR
      have freeR := (g8.trans g9).free d nR
      refine lc_list (K := K) (a := S) (xs := (sgns a b n.toNat).map V.str) (fun i H10 => Go D H H10 ∧ H10 S = some (.lst ((sgns a b n.toNat).map V.str)) ∧ H10 R = some (.lst ((((sgns a b n.toNat).map (stm stem spot.toNat)).take i).map V.str)))
        ⟨(g8.trans g9).new nR, by rw [upd_ne nRS]; exact eS9, upd_same⟩ (fun i H10 _ z => .inl (.inl z.2.1)) ?_ ?_
      · rintro i y H10 hi ⟨g10, e1, e2⟩
        obtain ⟨x, hx, rfl⟩ := getmap hi
        have hxm := sgns_mem l40 (List.mem_of_getElem? hx)
        have hlt := lt_of_get hx
        have c1 := cutS_length stem none (some spot)
        have c2 := cutS_length stem (some spot) none
        refine ⟨rfl, _, rfl, _, rfl, spot, rfl, stem, rfl, sline (by omega), _, rfl, _, _, rfl, rfl, sline (by omega), _, rfl, _, rfl, spot, rfl, stem, rfl, sline (by omega), _, _, rfl, rfl, sline ?_, ?_⟩
        · show ((cutS stem none (some spot)).cps ++ x.cps).size + _ ≤ 100000
          rw [Array.size_append]
          have z1 : (cutS stem none (some spot)).cps.size = (cutS stem none (some spot)).length := rfl
          have z2 : x.cps.size = x.length := rfl
          omega
        · rw [stm_eq s0 (by omega)]
          refine ⟨_, e2, slineL (by rw [List.length_map, List.length_take]; omega), g10.mut d freeR, by rw [upd_ne nRS]; exact e1, ?_⟩
          rw [upd_same, take_succ_map (f := V.str) (x := stm stem spot.toNat x) (by rw [List.getElem?_map, hx]; rfl)]
      · rintro H10 ⟨g10, e1, e2⟩
        rw [List.length_map, show (sgns a b n.toNat).length = ((sgns a b n.toNat).map (stm stem spot.toNat)).length from (List.length_map _).symm, List.take_length] at e2
        exact q R _ H10 (nms_stem k1 (by omega) ha hb l40) (by rw [List.length_map, lenS]; omega) freeR e2 g10
    refine ⟨_, rfl, rfl, _, rfl, ?_⟩
    refine ite2 (fun hw1 => ?_) (fun hw1 => ?_)
    · -- words of the texts ahead
      refine ⟨(by show 12 ≤ sizeLine; decide), fun c nc => ?_⟩
      have ncp := g8.st.ne_new nc
      have g9 := g8.new (o := .lst (kno.map V.str)) nc
      have eS9 : (upd H8 c (.lst (kno.map V.str))) S = some (.lst ((sgns a b n.toNat).map V.str)) := by rw [upd_ne (ne_of_none eS8 nc)]; exact eS8
      have ec9 : (upd H8 c (.lst (kno.map V.str))) c = some (.lst (kno.map V.str)) := upd_same
      show _
      refine ⟨_, rfl, _, rfl, _, rfl, D, c, kno.map V.str, rfl, g9.st, sqh ncp ec9, by show 12 ≤ 1000; decide, fun r ys H10 pm nr er g10 => ?_⟩
      obtain ⟨zs, rfl, pz⟩ := perm_strs pm
      have lz : zs.length = 12 := pz.length_eq
      have eS10 := g10.old nSp eS9
      refine ⟨_, rfl, r, S, _, _, rfl, rfl, er, eS10, sline (by rw [List.length_map, List.length_map]; omega), fun e ne_ => ?_⟩
      have nep := g10.st.ne_new ne_
      rw [← List.map_append]
      refine ⟨_, rfl, n, rfl, e, _, rfl, .inl (.inl upd_same), fun v nv => ?_⟩
      have nvp := ((g9.trans g10).new ne_).st.ne_new nv
      rw [cut_to _ (by omega), ← List.map_take]
      have nm := nms_known ha hb l40 pz n.toNat
      have lm : ((zs ++ sgns a b n.toNat).take n.toNat).length = n.toNat := by rw [List.length_take, List.length_append]; omega
      generalize (zs ++ sgns a b n.toNat).take n.toNat = ws at nm lm ⊢
      refine ⟨D, v, ws.map V.str, rfl, (((g9.trans g10).new ne_).new nv).st, sqh nvp upd_same, by rw [List.length_map]; omega, fun r2 ys2 H11 pm2 nr2 er2 g11 => ?_⟩
      obtain ⟨zs2, rfl, pz2⟩ := perm_strs pm2
      have gg := ((g9.trans g10).new ne_).new (o := .lst (ws.map V.str)) nv
      exact q r2 zs2 H11 ⟨pz2.nodup_iff.mpr nm.1, fun x hx => nm.2 x (pz2.mem_iff.mp hx)⟩ (by rw [pz2.length_eq, lm]; omega) (gg.free d nr2) er2 (gg.trans g11)
    · -- names one by one
      refine ⟨Nat.zero_le _, fun R nR => ?_⟩
      have nRp := g8.st.ne_new nR
      have nRS : S ≠ R := ne_of_none eS8 nR
      have freeR := g8.free d nR
      refine ⟨_, rfl, n, rfl, by omega, by omega, for_range (lo := 0) (n := n.toNat) (fun i σ H9 => ∃ (xs : List Str) (y1 y2 y3 y4 : Option V), σ = [some (.ref D.p), some (.int n), some (.int a), some (.int b), some (.ref L), y1, some (.ref S), some (.int way), some (.str stem), none, none, none, some (.ref R), y2, y3, y4] ∧
          Go D H H9 ∧ H9 S = some (.lst ((sgns a b n.toNat).map V.str)) ∧ H9 R = some (.lst (xs.map V.str)) ∧ Nms xs ∧ xs.length = i)
        ⟨[], none, none, none, none, rfl, g8.new nR, by rw [upd_ne nRS]; exact eS8, upd_same, ⟨List.nodup_nil, fun _ z => nomatch z⟩, rfl⟩ ?_ ?_⟩
      · rintro i σ H9 hi ⟨xs, y1, y2, y3, y4, rfl, g9, e1, e2, nm, lx⟩
        have lxs : (xs.map V.str).length ≤ 40 := by rw [List.length_map]; omega
        refine ⟨fun σ H10 => ∃ (c : Bool) (y3 y4 : Option V), σ = [some (.ref D.p), some (.int n), some (.int a), some (.int b), some (.ref L), some (.int (0 + (i : Int))), some (.ref S), some (.int way), some (.str stem), none, none, none, some (.ref R), some (.bl c), y3, y4] ∧
          Go D H H10 ∧ H10 S = some (.lst ((sgns a b n.toNat).map V.str)) ∧ H10 R = some (.lst (xs.map V.str)) ∧ (c = true → 0 < i), ?_, ?_⟩
        · refine ⟨_, rfl, _, _, rfl, rfl, _, rfl, ?_⟩
          refine ite2 (fun hp => ?_) (fun hp => ?_)
          · have hp' : 0 < i := by have := of_decide_eq_true hp; omega
            refine ⟨_, rfl, D, 3, rfl, g9.st, by decide, by decide, fun r H10 r0 r1 g10 => ⟨rfl, _, _, _, rfl, g9.trans g10, g10.old nSp e1, g10.old nRp e2, fun _ => hp'⟩⟩
          · exact ⟨_, _, _, rfl, g9, e1, e2, fun z => nomatch z⟩
        rintro σ H10 ⟨c, y3, y4, rfl, g10, e3, e4, hc⟩
        refine ⟨fun σ H11 => ∃ (tag : Str) (y4 : Option V), σ = [some (.ref D.p), some (.int n), some (.int a), some (.int b), some (.ref L), some (.int (0 + (i : Int))), some (.ref S), some (.int way), some (.str stem), none, none, none, some (.ref R), some (.bl c), some (.str tag), y4] ∧
          Go D H H11 ∧ H11 S = some (.lst ((sgns a b n.toNat).map V.str)) ∧ H11 R = some (.lst (xs.map V.str)) ∧ isNm tag = true, ?_, ?_⟩
        · refine ⟨_, rfl, c, rfl, ?_⟩
          cases c with
          | true =>
            refine iteT ?_
            have hp' := hc rfl
            refine ⟨_, rfl, _, rfl, _, rfl, D, _, rfl, g10.st, by omega, by omega, fun r H11 r0 r1 g11 => ?_⟩
            obtain ⟨v, hv⟩ : ∃ v, xs[r.toNat]? = some v := ⟨_, List.getElem?_eq_getElem (by omega)⟩
            have hvn := nm.2 v (List.mem_of_getElem? hv)
            refine ⟨R, _, r, .str v, rfl, rfl, .inl (.inl (g11.old nRp e4)), atI_of r0 (by rw [List.getElem?_map, hv]; rfl), ?_⟩
            refine ⟨_, rfl, D, 1, rfl, g11.st, by decide, by decide, fun x H12 x1 x2 x3 g12 => ?_⟩
            have hvl := isNm_len hvn
            have hz : (v ++ x).length ≤ 100000 := by rw [cs_len, cs_app, List.length_append, ← cs_len, ← cs_len]; omega
            refine ⟨_, _, rfl, rfl, sline (by omega), 6, rfl, _, rfl, sline hz, ?_⟩
            exact ⟨_, _, rfl, (g10.trans g11).trans g12, g12.old nSp (g11.old nSp e3), g12.old nRp (g11.old nRp e4), nm_long hvn x1⟩
          | false =>
            refine iteF ?_
            refine ⟨_, rfl, D, 6, rfl, g10.st, by decide, by decide, fun x H12 x1 x2 x3 g12 => ?_⟩
            exact ⟨_, _, rfl, g10.trans g12, g12.old nSp e3, g12.old nRp e4, nm_word x1 x2 x3⟩
        rintro σ H11 ⟨tag, y4, rfl, g11, e5, e6, ht⟩
        refine ⟨_, rfl, S, rfl, ⟨_, .inl (.inl e5)⟩, fun T nT => ?_⟩
        have nTp := g11.st.ne_new nT
        have nTS : S ≠ T := ne_of_none e5 nT
        have nTR : R ≠ T := ne_of_none e6 nT
        refine lc_list (K := K) (a := S) (xs := (sgns a b n.toNat).map V.str) (fun i H12 => Go D H H12 ∧ H12 S = some (.lst ((sgns a b n.toNat).map V.str)) ∧ H12 R = some (.lst (xs.map V.str)) ∧ H12 T = some (.lst ((((sgns a b n.toNat).take i).filter (fun s => !decide (s ∈ xs))).map V.str)))
          ⟨g11.new nT, by rw [upd_ne nTS]; exact e5, by rw [upd_ne nTR]; exact e6, upd_same⟩ (fun i H12 _ z => .inl (.inl z.2.1)) ?_ ?_
        · rintro j y H12 hj ⟨g12, z1, z2, z3⟩
          obtain ⟨x, hx, rfl⟩ := getmap hj
          have hlt := lt_of_get hx
          have hl3 : ((((sgns a b n.toNat).take j).filter (fun s => !decide (s ∈ xs))).map V.str).length < sizeLine := by
            refine slineL ?_
            rw [List.length_map]
            have q1 := List.length_filter_le (fun s => !decide (s ∈ xs)) ((sgns a b n.toNat).take j)
            rw [List.length_take] at q1
            omega
          have step : ((sgns a b n.toNat).take (j + 1)).filter (fun s => !decide (s ∈ xs)) = ((sgns a b n.toNat).take j).filter (fun s => !decide (s ∈ xs)) ++ (if x ∈ xs then [] else [x]) := by
            rw [List.take_add_one, hx, List.filter_append]
            by_cases hm : x ∈ xs
            · simp [hm]
            · simp [hm]
          refine ⟨rfl, _, rfl, _, rfl, R, _, rfl, .inl (.inl (.inl z2)), rfl, flatS xs, _, rfl, ?_⟩
          rw [inS]
          refine ite2 (fun hm => ?_) (fun hm => ?_)
          · have hm' : x ∉ xs := by simpa using hm
            refine ⟨_, rfl, _, z3, hl3, g12.mut d (g11.free d nT), by rw [upd_ne nTS]; exact z1, by rw [upd_ne nTR]; exact z2, ?_⟩
            rw [upd_same, step, if_neg hm', List.map_append]
            rfl
          · have hm' : x ∈ xs := by simpa using hm
            refine ⟨g12, z1, z2, ?_⟩
            rw [z3, step, if_pos hm', List.append_nil]
        · rintro H12 ⟨g12, z1, z2, z3⟩
          rw [List.length_map, List.take_length] at z3
          refine ⟨_, rfl, .inl ⟨rfl, _, .inl (.inl z2)⟩, _, rfl, _, rfl, R, _, rfl, .inl (.inl (.inl z2)), rfl, flatS xs, _, rfl, ?_⟩
          rw [inS]
          have app : ∀ x : Str, isNm x = true → x ∉ xs → ∃ l ys w, V.ref R = V.ref l ∧ [V.str x] = [w] ∧ H12 l = some (.lst ys) ∧ ys.length < sizeLine ∧
              ∃ (xs' : List Str) (y1 y2 y3 y4 : Option V), [some (V.ref D.p), some (V.int n), some (V.int a), some (V.int b), some (V.ref L), some (V.int (0 + (i : Int))), some (V.ref S), some (V.int way), some (V.str stem), none, none, none, some (V.ref R), some (V.bl c), some (V.str tag), some (V.ref T)] =
                [some (.ref D.p), some (.int n), some (.int a), some (.int b), some (.ref L), y1, some (.ref S), some (.int way), some (.str stem), none, none, none, some (.ref R), y2, y3, y4] ∧
                Go D H (upd H12 l (.lst (ys ++ [w]))) ∧ (upd H12 l (.lst (ys ++ [w]))) S = some (.lst ((sgns a b n.toNat).map V.str)) ∧ (upd H12 l (.lst (ys ++ [w]))) R = some (.lst (xs'.map V.str)) ∧ Nms xs' ∧ xs'.length = i + 1 := fun x hx hn =>
            ⟨R, _, _, rfl, rfl, z2, slineL (by omega), xs ++ [x], _, _, _, _, rfl, g12.mut d freeR, by rw [upd_ne nRS]; exact z1, by rw [upd_same, List.map_append]; rfl, nm.snoc hx hn, by rw [List.length_append, lx]; rfl⟩
          refine ite2 (fun hm => ?_) (fun hm => ?_)
          · obtain ⟨s0, r0, hs0⟩ := spare_left (xs := xs) (sgns_nodup ha hb l40) (by omega)
            rw [hs0] at z3
            refine ⟨_, rfl, T, _, 0, .str s0, rfl, rfl, .inl (.inl z3), atI_of (by decide) rfl, ?_⟩
            have hs1 : s0 ∈ (sgns a b n.toNat).filter (fun s => !decide (s ∈ xs)) := by rw [hs0]; exact List.mem_cons_self
            obtain ⟨hs2, hs3⟩ := List.mem_filter.mp hs1
            obtain ⟨q1, q2, q3⟩ := sgns_mem l40 hs2
            exact app s0 (isNm_iff.mpr ⟨q1, by omega, q3⟩) (by simpa using hs3)
          · exact ⟨_, rfl, app tag ht (by simpa using hm)⟩
      · rintro σ H9 ⟨xs, y1, y2, y3, y4, rfl, g9, e1, e2, nm, lx⟩
        exact ⟨_, rfl, q R xs H9 nm (by omega) freeR e2 g9⟩
end
end Th
namespace Th
open PySem PySem.Spec PyProof.Rows L2
abbrev s_l_odd : Stmt := topS 26
theorem sc_l_odd : FnScope ["_law_state"] ["_law_state"] (defScope s_l_odd) := ⟨rfl, rfl, rfl, by decide +kernel, rfl, by decide +kernel, by decide +kernel⟩
/-- the second argument of the call that a def hands back -/
def argE (s : Stmt) : Expr := match defBody s with
  | [.Return (some (.Call _ [_, e] _ _)) _] => e
  | _ => .Constant .none 0 ⟨0, 0, 0, 0⟩
def spOdd (K : PySem.W.Frag) : Sp := fun vs H Q _ => ∃ (D : DS), vs = [.ref D.p] ∧ Drw D H ∧ ∀ (v : V) (d : PyData) H', d ∈ odds → Go D H H' → Da K (hid D.p H') v d → Q v H'
section
variable {P : Program} {w : World} {K : PySem.W.Frag} {mg : Str → Option Value} {base : Heap}
theorem has_l_odd (Z : Zs mg) (A : At K mg "_law_odd" s_l_odd ["_law_state"]) (h_l_pick : Has P w K mg base "_law_pick" s_l_pick 2 ["_law_state", "_law_pool"] (spPick K)) : Has P w K mg base "_law_odd" s_l_odd 3 ["_law_state"] (spOdd K) := by
  obtain ⟨f, fd, F, mg1, bd⟩ := A
  obtain ⟨f_l_pick, fd_l_pick, G_l_pick, m_l_pick, k_l_pick, b_l_pick, F_l_pick⟩ := h_l_pick
  refine ⟨f, fd, ?_, mg1, F.kp, bd, F⟩
  refine F.ok sc_l_odd (fun vs H Q E h => ?_) (fun cdv A outer s H vs Q E hr h => ?_)
  · obtain ⟨D, rfl, _⟩ := h
    rfl
  · obtain ⟨D, rfl, d, q⟩ := h
    obtain ⟨t, pe, lit, _⟩ := litE_ok (K := K) (X := (cxOf CX0 P w K mg base ["_law_state"] "_law_odd" (defScope s_l_odd) f cdv A outer s H E).nox) 3 (argE s_l_odd) (.list odds) (by kernel_rfl)
    refine ⟨_, (pss_one (ps_ret (pe_call G_l_pick (hr.mono (by decide)) (by rfl) m_l_pick k_l_pick b_l_pick .nil pass0 (pa_cons (pv 0) (pa_cons pe pa_nil))))), ?_⟩
    refine ⟨_, rfl, lit D _ H _ d fun v H1 g1 r => ?_⟩
    cases r with
    | lst hs ht ha =>
      have lv := ha.len
      have l35 : odds.length = 35 := rfl
      refine ⟨D, _, _, rfl, g1.st, hs, by omega, by omega, fun i v H2 hv g3 => ?_⟩
      obtain ⟨e, he, re⟩ := ha.at hv
      exact q v e H2 (List.mem_of_getElem? he) (g1.trans g3) (re.to g3.sm)
end
end Th
namespace Th
open PySem PySem.Spec PyProof.Rows L2
abbrev s_l_same : Stmt := topS 28
theorem sc_l_same : FnScope ["_law_got", "_law_due", "_law_k"] ["_law_got", "_law_due"] (defScope s_l_same) := ⟨rfl, rfl, rfl, by decide +kernel, rfl, by decide +kernel, by decide +kernel⟩

/-- two values of the same datum are told to be the same -/
def spSm (K : PySem.W.Frag) (n : Nat) : Sp := fun vs H Q _ => ∃ (v u : V) (d : PyData), vs = [v, u] ∧ Da K H v d ∧ Da K H u d ∧ LvN n d ∧ ∀ H', Same H H' → Q (.bl true) H'
section
variable {P : Program} {w : World} {K : PySem.W.Frag} {mg : Str → Option Value} {base : Heap}
theorem same_step (Z : Zs mg) {f : Addr} {fd : FuncData} (F : Fun K "_law_same" "_law_same" s_l_same f fd) (m_l_same : mg "_law_same" = some (.ref f)) (b_l_same : Binds K fd ["_law_got", "_law_due"] []) (k : Nat)
    (G_l_same : FnOk P w K mg base CX0 k f fd ["_law_got", "_law_due"] (spSm K k)) : FnOk P w K mg base CX0 (k + 1) f fd ["_law_got", "_law_due"] (spSm K (k + 1)) := by
  have k_l_same := F.kp
  refine F.ok sc_l_same (fun vs H Q E h => ?_) (fun cdv A outer s H vs Q E hr h => ?_)
  · obtain ⟨v, u, d, rfl, _⟩ := h
    rfl
  · obtain ⟨v, u, d, rfl, rv, ru, lv, q⟩ := h
    have lv : Lv k d := lv
    have nd := rv.nodict
    refine ⟨_, (pss_cons (ps_if (pt_val (pe_callB (show CallR _ (.builtin "isinstance") (rIsiT K) from call_isiT) (by rfl) Z.isinstance_ (by decide +kernel) (pa_cons (pv 1) (pa_cons (pe_tup (pa_cons (pe_bltn (v := .ty "list") (by rfl) Z.list_ (by decide +kernel) rfl) (pa_cons (pe_bltn (v := .ty "tuple") (by rfl) Z.tuple_ (by decide +kernel) rfl) pa_nil))) pa_nil)))) (pss_cons (ps_if (PW.pt (pw_or (pt_cmpR op_ne (pe_callB call_isi (by rfl) Z.isinstance_ (by decide +kernel) (pa_cons (pv 0) (pa_cons (pe_bltn (v := .ty "list") (by rfl) Z.list_ (by decide +kernel) rfl) pa_nil))) (pe_callB call_isi (by rfl) Z.isinstance_ (by decide +kernel) (pa_cons (pv 1) (pa_cons (pe_bltn (v := .ty "list") (by rfl) Z.list_ (by decide +kernel) rfl) pa_nil))) (nomark _)) (pw_or1 (pt_cmpR op_ne (pe_callB call_isi (by rfl) Z.isinstance_ (by decide +kernel) (pa_cons (pv 0) (pa_cons (pe_bltn (v := .ty "tuple") (by rfl) Z.tuple_ (by decide +kernel) rfl) pa_nil))) (pe_callB call_isi (by rfl) Z.isinstance_ (by decide +kernel) (pa_cons (pv 1) (pa_cons (pe_bltn (v := .ty "tuple") (by rfl) Z.tuple_ (by decide +kernel) rfl) pa_nil))) (nomark _))))) (pss_one (ps_ret pe_bl)) pss_nil) (pss_one (ps_ret (pe_and (pe_cmpR op_eq (pe_callB call_len_seq (by rfl) Z.len_ (by decide +kernel) (pa_cons (pv 0) pa_nil)) (pe_callB call_len_seq (by rfl) Z.len_ (by decide +kernel) (pa_cons (pv 1) pa_nil)) (nomark _)) (pe_one (pe_callB (cr_all rfl) (by rfl) Z.all_ (by decide +kernel) (pa_cons (pe_lc (own := [("_law_k", 2)]) (g := gName 2) (by rfl) sc_l_same.nd (pi_range1 (by rfl) Z.range_ (pa_cons (pe_callB call_len_seq (by rfl) Z.len_ (by decide +kernel) (pa_cons (pv 1) pa_nil)) pa_nil)) (blkOk_by (own := [("_law_k", 2)]) (N := ["_law_got", "_law_due", "_law_k"]) (sc := defScope s_l_same) (by decide +kernel)) (fun _ _ _ _ _ => pg_name (i := 2) sc_l_same.nd rfl (Or.inl rfl)) (fun _ _ _ _ _ => pts_nil) (fun _ _ _ _ _ => (pe_call G_l_same (hr.mono (Nat.le_refl _)) (by rfl) m_l_same k_l_same b_l_same .nil pass0 (pa_cons (pe_ix (show IxR _ (rIx K) from ix_seq) (pv 0) (pv 2) (fun _ _ => rfl)) (pa_cons (pe_ix (show IxR _ (rIx K) from ix_seq) (pv 1) (pv 2) (fun _ _ => rfl)) pa_nil))))) pa_nil))))))) pss_nil) (pss_cons (ps_if (PW.pt (pw_or (pt_cmpR op_isN (pv 1) pe_non (nomark _)) (pw_or1 (pt_cmpR op_isN (pv 0) pe_non (nomark _))))) (pss_one (ps_ret (pe_and (pe_cmpR op_isN (pv 1) pe_non (nomark _)) (pe_one (pe_cmpR op_isN (pv 0) pe_non (nomark _)))))) pss_nil) (pss_cons (ps_if (PW.pt (pw_or (pt_val (pe_callB call_isi (by rfl) Z.isinstance_ (by decide +kernel) (pa_cons (pv 1) (pa_cons (pe_bltn (v := .ty "bool") (by rfl) Z.bool_ (by decide +kernel) rfl) pa_nil)))) (pw_or1 (pt_val (pe_callB call_isi (by rfl) Z.isinstance_ (by decide +kernel) (pa_cons (pv 0) (pa_cons (pe_bltn (v := .ty "bool") (by rfl) Z.bool_ (by decide +kernel) rfl) pa_nil))))))) (pss_one (ps_ret (pe_and (pe_callB call_isi (by rfl) Z.isinstance_ (by decide +kernel) (pa_cons (pv 1) (pa_cons (pe_bltn (v := .ty "bool") (by rfl) Z.bool_ (by decide +kernel) rfl) pa_nil))) (pe_and (pe_callB call_isi (by rfl) Z.isinstance_ (by decide +kernel) (pa_cons (pv 0) (pa_cons (pe_bltn (v := .ty "bool") (by rfl) Z.bool_ (by decide +kernel) rfl) pa_nil))) (pe_one (pe_cmpR op_eq (pv 0) (pv 1) (nomark _))))))) pss_nil) (pss_cons (ps_if (pt_val (pe_callB call_isi (by rfl) Z.isinstance_ (by decide +kernel) (pa_cons (pv 1) (pa_cons (pe_bltn (v := .ty "int") (by rfl) Z.int_ (by decide +kernel) rfl) pa_nil)))) (pss_one (ps_ret (pe_and (pe_callB call_isi (by rfl) Z.isinstance_ (by decide +kernel) (pa_cons (pv 0) (pa_cons (pe_bltn (v := .ty "int") (by rfl) Z.int_ (by decide +kernel) rfl) pa_nil))) (pe_one (pe_cmpR op_eq (pv 0) (pv 1) (nomark _)))))) pss_nil) (pss_one (ps_ret (pe_and (pe_callB call_isi (by rfl) Z.isinstance_ (by decide +kernel) (pa_cons (pv 1) (pa_cons (pe_bltn (v := .ty "str") (by rfl) Z.str_ (by decide +kernel) rfl) pa_nil))) (pe_and (pe_callB call_isi (by rfl) Z.isinstance_ (by decide +kernel) (pa_cons (pv 0) (pa_cons (pe_bltn (v := .ty "str") (by rfl) Z.str_ (by decide +kernel) rfl) pa_nil))) (pe_one (pe_cmpR op_eq (pv 0) (pv 1) (nomark _))))))))))), ?_⟩
    refine ⟨_, rfl, (by show 2 ≤ sizeLine; decide), fun t nt => ⟨u, t, _, _, _, _, rfl, upd_same, .cons (.ty _) (.cons (.ty _) .nil), ty_same (same_new nt) ru.ty, kit_lt d nd, _, rfl, ?_⟩⟩
    have s0 : Same H (upd H t (.tup [.ty "list", .ty "tuple"])) := same_new nt
    generalize upd H t (.tup [.ty "list", .ty "tuple"]) = H1 at s0 ⊢
    have rv1 := rv.to s0
    have ru1 := ru.to s0
    by_cases hseq : tyD d = "list" ∨ tyD d = "tuple"
    · -- the kinds, the lengths, then the items
      rw [decide_eq_true hseq]
      refine iteT ?_
      refine ⟨_, rfl, v, _, _, _, _, rfl, .ty "list", rv1.ty, kit_ty (kit_list d nd), _, rfl, u, _, _, _, _, rfl, .ty "list", ru1.ty, kit_ty (kit_list d nd), rfl, _, rfl, ?_⟩
      refine iteNS rfl ?_
      refine ⟨_, rfl, v, _, _, _, _, rfl, .ty "tuple", rv1.ty, kit_ty (kit_tuple d nd), _, rfl, u, _, _, _, _, rfl, .ty "tuple", ru1.ty, kit_ty (kit_tuple d nd), rfl, _, rfl, ?_⟩
      refine iteNS rfl ?_
      obtain ⟨p, r, xs, ys, ds, rfl, rfl, hp, hr2, rx, ry, hl, lvx⟩ := da_two rv1 ru1 hseq lv
      have l1 := rx.len
      have l2 := ry.len
      refine ⟨_, rfl, p, xs, rfl, hp, _, rfl, r, ys, rfl, hr2, rfl, _, rfl, ?_⟩
      refine ite2 (fun _ => ?_) (fun z => absurd (decide_eq_true (by rw [l1, l2])) z)
      refine ⟨_, rfl, r, ys, rfl, hr2, _, rfl, by omega, by omega, fun L nL => ?_⟩
      refine lc_range (lo := 0) (n := (ys.length : Int).toNat) (fun i H2 => Same H1 H2 ∧ H2 L = some (.lst ((List.replicate i true).map V.bl))) ⟨same_new nL, upd_same⟩ ?_ ?_
      · rintro i H2 hi ⟨s2, e2⟩
        have hi' : i < ys.length := by omega
        obtain ⟨x, hx⟩ : ∃ x, xs[i]? = some x := ⟨_, List.getElem?_eq_getElem (by omega)⟩
        obtain ⟨y, hy⟩ : ∃ y, ys[i]? = some y := ⟨_, List.getElem?_eq_getElem hi'⟩
        obtain ⟨e, he, re⟩ := rx.at hx
        obtain ⟨e', he', re'⟩ := ry.at hy
        rw [he] at he'
        cases he'
        refine ⟨rfl, _, rfl, _, rfl, ix_any (sq_any s2 hp) hx ⟨_, rfl, _, rfl, ix_any (sq_any s2 hr2) hy ⟨x, y, e, rfl, re.to s2, re'.to s2, lvx e (List.mem_of_getElem? he), fun H3 s3 => ?_⟩⟩⟩
        refine ⟨_, s3 _ _ e2, slineL (by rw [List.length_map, List.length_replicate]; omega), same_mut (s2.trans s3) nL, ?_⟩
        rw [upd_same, List.replicate_succ', List.map_append]
        rfl
      · rintro H2 ⟨s2, e2⟩
        refine ⟨L, _, rfl, .inl (.inl e2), ?_⟩
        have ea : (List.replicate (ys.length : Int).toNat true).all id = true := by
          rw [List.all_eq_true]
          intro b hb
          exact (List.mem_replicate.mp hb).2
        rw [ea]
        exact q H2 (s0.trans s2)
    rw [decide_eq_false hseq]
    refine iteF ?_
    have fin := q H1 s0
    cases d with
    | list ds => exact absurd (.inl rfl) hseq
    | tuple ds => exact absurd (.inr rfl) hseq
    | dict kvs => exact absurd rfl nd
    | none =>
      cases rv1
      cases ru1
      refine ⟨_, rfl, rfl, _, rfl, iteT ?_⟩
      exact ⟨_, rfl, rfl, _, rfl, iteT ⟨_, rfl, rfl, fin⟩⟩
    | bool b =>
      have hv : v = .bl b := by cases rv; rfl
      have hu : u = .bl b := by cases ru; rfl
      subst hv hu
      refine ⟨_, rfl, rfl, _, rfl, iteF ?_⟩
      refine ⟨_, rfl, rfl, _, rfl, iteF ?_⟩
      refine ⟨_, rfl, _, _, _, _, _, rfl, .ty "bool", ru1.ty, kit_ty (kit_bool _ nd), _, rfl, iteT ?_⟩
      refine ⟨_, rfl, _, _, _, _, _, rfl, .ty "bool", ru1.ty, kit_ty (kit_bool _ nd), _, rfl, iteT ?_⟩
      refine ⟨_, rfl, _, _, _, _, _, rfl, .ty "bool", rv1.ty, kit_ty (kit_bool _ nd), _, rfl, iteT ?_⟩
      refine ⟨_, rfl, _, rfl, rfl, ?_⟩
      rw [decide_eq_true rfl]
      exact fin
    | int b =>
      have hv : v = .int b := by cases rv; rfl
      have hu : u = .int b := by cases ru; rfl
      subst hv hu
      refine ⟨_, rfl, rfl, _, rfl, iteF ?_⟩
      refine ⟨_, rfl, rfl, _, rfl, iteF ?_⟩
      refine ⟨_, rfl, _, _, _, _, _, rfl, .ty "bool", ru1.ty, kit_ty (kit_bool _ nd), _, rfl, iteF ?_⟩
      refine ⟨_, rfl, _, _, _, _, _, rfl, .ty "bool", rv1.ty, kit_ty (kit_bool _ nd), _, rfl, iteF ?_⟩
      refine ⟨_, rfl, _, _, _, _, _, rfl, .ty "int", ru1.ty, kit_ty (kit_int _ nd), _, rfl, iteT ?_⟩
      refine ⟨_, rfl, _, _, _, _, _, rfl, .ty "int", rv1.ty, kit_ty (kit_int _ nd), _, rfl, iteT ?_⟩
      refine ⟨_, rfl, _, rfl, rfl, ?_⟩
      rw [decide_eq_true rfl]
      exact fin
    | str b =>
      have hv : v = .str b := by cases rv; rfl
      have hu : u = .str b := by cases ru; rfl
      subst hv hu
      refine ⟨_, rfl, rfl, _, rfl, iteF ?_⟩
      refine ⟨_, rfl, rfl, _, rfl, iteF ?_⟩
      refine ⟨_, rfl, _, _, _, _, _, rfl, .ty "bool", ru1.ty, kit_ty (kit_bool _ nd), _, rfl, iteF ?_⟩
      refine ⟨_, rfl, _, _, _, _, _, rfl, .ty "bool", rv1.ty, kit_ty (kit_bool _ nd), _, rfl, iteF ?_⟩
      refine ⟨_, rfl, _, _, _, _, _, rfl, .ty "int", ru1.ty, kit_ty (kit_int _ nd), _, rfl, iteF ?_⟩
      refine ⟨_, rfl, _, _, _, _, _, rfl, .ty "str", ru1.ty, kit_ty (kit_str _ nd), _, rfl, iteT ?_⟩
      refine ⟨_, rfl, _, _, _, _, _, rfl, .ty "str", rv1.ty, kit_ty (kit_str _ nd), _, rfl, iteT ?_⟩
      refine ⟨_, rfl, _, rfl, rfl, ?_⟩
      rw [decide_eq_true rfl]
      exact fin
theorem has_l_same (Z : Zs mg) (A : At K mg "_law_same" s_l_same ["_law_got", "_law_due"]) : Has P w K mg base "_law_same" s_l_same 6 ["_law_got", "_law_due"] (spSm K 6) := by
  obtain ⟨f, fd, F, mg1, bd⟩ := A
  refine ⟨f, fd, ?_, mg1, F.kp, bd, F⟩
  have G0 : FnOk P w K mg base CX0 0 f fd ["_law_got", "_law_due"] (spSm K 0) := ⟨fun vs H Q E h => by obtain ⟨v, u, d, rfl, _⟩ := h; rfl, fun A outer s H args us vs Q E hr he hb hv hs => by obtain ⟨v, u, d, rfl, _, _, z, _⟩ := hs; exact z.elim⟩
  exact same_step Z F mg1 bd 5 (same_step Z F mg1 bd 4 (same_step Z F mg1 bd 3 (same_step Z F mg1 bd 2 (same_step Z F mg1 bd 1 (same_step Z F mg1 bd 0 G0)))))
end
end Th
namespace Th
open PySem PySem.Spec PyProof.Rows L2
abbrev s_p_common : Stmt := topS 16
theorem sc_p_common : FnScope ["one", "other", "name"] ["one", "other"] (defScope s_p_common) := ⟨rfl, rfl, rfl, by decide +kernel, rfl, by decide +kernel, by decide +kernel⟩
/-- the names of an order that a lot has, in a new tuple -/
def spCut (K : PySem.W.Frag) : Sp := fun vs H Q _ => ∃ (a b : Addr) (xs zs : List Str), vs = [.ref a, .ref b] ∧ SqT K H a (xs.map V.str) ∧ SqT K H b (zs.map V.str) ∧ xs.length ≤ 60 ∧
  ∀ r H', Same H H' → H r = none → H' r = some (.tup ((xs.filter fun x => decide (x ∈ zs)).map V.str)) → Q (.ref r) H'
theorem filter_step {p : Str → Bool} {xs : List Str} {i : Nat} {x : Str} (h : xs[i]? = some x) : (xs.take (i + 1)).filter p = (xs.take i).filter p ++ (if p x = true then [x] else []) := by
  rw [List.take_add_one, h, List.filter_append]
  cases hp : p x <;> simp [hp]
theorem filter_short {p : Str → Bool} {xs : List Str} {i n : Nat} (h : xs.length ≤ n) : (((xs.take i).filter p).map V.str).length ≤ n := by
  rw [List.length_map]
  have a := List.length_filter_le p (xs.take i)
  rw [List.length_take] at a
  omega
section
variable {P : Program} {w : World} {K : PySem.W.Frag} {mg : Str → Option Value} {base : Heap}
theorem has_p_common (Z : Zs mg) (A : At K mg "common" s_p_common ["one", "other"]) : Has P w K mg base "common" s_p_common 1 ["one", "other"] (spCut K) := by
  obtain ⟨f, fd, F, mg1, bd⟩ := A
  refine ⟨f, fd, ?_, mg1, F.kp, bd, F⟩
  refine F.ok sc_p_common (fun vs H Q E h => ?_) (fun cdv A outer s H vs Q E hr h => ?_)
  · obtain ⟨a, b, xs, zs, rfl, _⟩ := h
    rfl
  · obtain ⟨a, b, xs, zs, rfl, ha, hb, hl, q⟩ := h
    refine ⟨_, (pss_one (ps_ret (pe_callTy call_tuple_of (by rfl) Z.tuple_ (by decide +kernel) (pa_cons (pe_lc (own := [("name", 2)]) (g := gName 2) (by rfl) sc_p_common.nd (pi_tup (pv 0)) (blkOk_by (own := [("name", 2)]) (N := ["one", "other", "name"]) (sc := defScope s_p_common) (by decide +kernel)) (fun _ _ _ _ _ => pg_name (i := 2) sc_p_common.nd rfl (Or.inl rfl)) (fun _ _ _ _ _ => (pts_one (pt_cmpR (show OpR _ (compareOp .In) (rIn K false) from op_in_seq) (pv 2) (pv 1) (by rfl)))) (fun _ _ _ _ _ => (pv 2))) pa_nil)))), ?_⟩
    refine ⟨_, rfl, a, rfl, ⟨_, ha⟩, fun L nL => ?_⟩
    refine lc_tup (K := K) (a := a) (xs := xs.map V.str) (fun i H2 => Same H H2 ∧ H2 L = some (.lst (((xs.take i).filter fun x => decide (x ∈ zs)).map V.str))) ⟨same_new nL, upd_same⟩ (fun i H2 _ z => same_t z.1 ha) ?_ ?_
    · rintro i y H2 hi ⟨s2, e2⟩
      obtain ⟨x, hx, rfl⟩ := getmap hi
      refine ⟨rfl, _, rfl, _, rfl, b, _, rfl, .inr (same_t s2 hb), rfl, flatS zs, _, rfl, ?_⟩
      rw [inS]
      have step := filter_step (p := fun x => decide (x ∈ zs)) hx
      refine ite2 (fun hm => ?_) (fun hm => ?_)
      · refine ⟨_, rfl, _, e2, slineL (by have := filter_short (p := fun x => decide (x ∈ zs)) (i := i) hl; omega), same_mut s2 nL, ?_⟩
        rw [upd_same, step, if_pos (by simpa using hm), List.map_append]
        rfl
      · exact ⟨s2, by rw [e2, step, if_neg (by simpa using hm), List.append_nil]⟩
    · rintro H2 ⟨s2, e2⟩
      rw [List.length_map, List.take_length] at e2
      refine ⟨L, _, rfl, .inl ⟨.inl (.inl e2), fun r nr => ?_⟩⟩
      exact q r _ (s2.trans (same_new nr)) (s2.free nr) upd_same
end
end Th
namespace Th
open PySem PySem.Spec PyProof.Rows L2
abbrev s_l_union : Stmt := topS 34
theorem sc_l_union : FnScope ["_law_p", "_law_q", "_law_x"] ["_law_p", "_law_q"] (defScope s_l_union) := ⟨rfl, rfl, rfl, by decide +kernel, rfl, by decide +kernel, by decide +kernel⟩
/-- the names of two lots, in order, in a new tuple -/
def spUnion2 (K : PySem.W.Frag) : Sp := fun vs H Q _ => ∃ (a b : Addr) (xs zs : List Str), vs = [.ref a, .ref b] ∧ SqT K H a (xs.map V.str) ∧ SqT K H b (zs.map V.str) ∧ xs.length ≤ 60 ∧ zs.length ≤ 60 ∧ (xs ++ zs.filter fun x => !decide (x ∈ xs)).length ≤ 60 ∧
  ∀ r (ys : List Str) H', ys.Perm (xs ++ zs.filter fun x => !decide (x ∈ xs)) → sortedS ys = true → Same H H' → H r = none → H' r = some (.tup (ys.map V.str)) → Q (.ref r) H'
section
variable {P : Program} {w : World} {K : PySem.W.Frag} {mg : Str → Option Value} {base : Heap}
theorem has_l_union (Z : Zs mg) (A : At K mg "_law_union" s_l_union ["_law_p", "_law_q"]) : Has P w K mg base "_law_union" s_l_union 1 ["_law_p", "_law_q"] (spUnion2 K) := by
  obtain ⟨f, fd, F, mg1, bd⟩ := A
  refine ⟨f, fd, ?_, mg1, F.kp, bd, F⟩
  refine F.ok sc_l_union (fun vs H Q E h => ?_) (fun cdv A outer s H vs Q E hr h => ?_)
  · obtain ⟨a, b, xs, zs, rfl, _⟩ := h
    rfl
  · obtain ⟨a, b, xs, zs, rfl, ha, hb, hl, hlz, hsum, q⟩ := h
    refine ⟨_, (pss_one (ps_ret (pe_callTy call_tuple_of (by rfl) Z.tuple_ (by decide +kernel) (pa_cons (pe_callB cr_sortedS (by rfl) Z.sorted_ (by decide +kernel) (pa_cons (pe_op op_cat (pe_callTy call_list_of (by rfl) Z.list_ (by decide +kernel) (pa_cons (pv 0) pa_nil)) (pe_lc (own := [("_law_x", 2)]) (g := gName 2) (by rfl) sc_l_union.nd (pi_tup (pv 1)) (blkOk_by (own := [("_law_x", 2)]) (N := ["_law_p", "_law_q", "_law_x"]) (sc := defScope s_l_union) (by decide +kernel)) (fun _ _ _ _ _ => pg_name (i := 2) sc_l_union.nd rfl (Or.inl rfl)) (fun _ _ _ _ _ => (pts_one (pt_cmpR (show OpR _ (compareOp .NotIn) (rIn K true) from op_notIn_seq) (pv 2) (pv 0) (by rfl)))) (fun _ _ _ _ _ => (pv 2)))) pa_nil)) pa_nil)))), ?_⟩
    refine ⟨_, rfl, a, _, rfl, .inr ha, fun l nl => ?_⟩
    have s1 := same_new (o := .lst (xs.map V.str)) nl
    have el : (upd H l (.lst (xs.map V.str))) l = some (.lst (xs.map V.str)) := upd_same
    generalize upd H l (.lst (xs.map V.str)) = H1 at s1 el ⊢
    refine ⟨_, rfl, b, rfl, ⟨_, same_t s1 hb⟩, fun R nR => ?_⟩
    refine lc_tup (K := K) (a := b) (xs := zs.map V.str) (fun i H4 => Same H1 H4 ∧ H4 R = some (.lst (((zs.take i).filter fun x => !decide (x ∈ xs)).map V.str))) ⟨same_new nR, upd_same⟩ (fun i H4 _ z => same_t (s1.trans z.1) hb) ?_ ?_
    · rintro i y H4 hi' ⟨s4, e4⟩
      obtain ⟨x, hx, rfl⟩ := getmap hi'
      refine ⟨rfl, _, rfl, _, rfl, a, _, rfl, .inr (same_t (s1.trans s4) ha), rfl, flatS xs, _, rfl, ?_⟩
      rw [inS]
      have step := filter_step (p := fun x => !decide (x ∈ xs)) hx
      refine ite2 (fun hm => ?_) (fun hm => ?_)
      · have hm' : x ∉ xs := by simpa using hm
        refine ⟨_, rfl, _, e4, slineL (by have := filter_short (p := fun x => !decide (x ∈ xs)) (i := i) hlz; omega), same_mut s4 nR, ?_⟩
        rw [upd_same, step, if_pos (by simpa using hm'), List.map_append]
        rfl
      · have hm' : x ∈ xs := by simpa using hm
        exact ⟨s4, by rw [e4, step, if_neg (by simpa using hm'), List.append_nil]⟩
    · rintro H4 ⟨s4, e4⟩
      rw [List.length_map, List.take_length] at e4
      have lf := List.length_filter_le (fun x => !decide (x ∈ xs)) zs
      refine ⟨l, R, _, _, rfl, rfl, s4 _ _ el, e4, sline (by rw [List.length_map, List.length_map]; omega), fun S nS => ?_⟩
      have s5 := (s1.trans s4).trans (same_new (o := .lst (xs.map V.str ++ (zs.filter fun x => !decide (x ∈ xs)).map V.str)) nS)
      have eS : (upd H4 S (.lst (xs.map V.str ++ (zs.filter fun x => !decide (x ∈ xs)).map V.str))) S = some (.lst ((xs ++ zs.filter fun x => !decide (x ∈ xs)).map V.str)) := by rw [upd_same, List.map_append]
      refine ⟨S, _, rfl, .inl (.inl eS), by omega, fun ys r2 pm so nr2 => ?_⟩
      have s6 := s5.trans (same_new (o := .lst (ys.map V.str)) nr2)
      refine ⟨r2, _, rfl, .inl ⟨.inl (.inl upd_same), fun r nr => ?_⟩⟩
      exact q r ys _ pm so (s6.trans (same_new nr)) (s6.free nr) upd_same
end
end Th
namespace Th
open PySem PySem.Spec PyProof.Rows L2
abbrev s_l_subset : Stmt := topS 27
theorem sc_l_subset : FnScope ["_law_state", "_law_pool", "_law_limit", "_law_spare", "_law_bits", "_law_x", "_law_some", "_law_k"] ["_law_state", "_law_pool"] (defScope s_l_subset) := ⟨rfl, rfl, rfl, by decide +kernel, rfl, by decide +kernel, by decide +kernel⟩
/-- some of the names of a list, at least one, in order, in a new tuple -/
def spSubset (K : PySem.W.Frag) : Sp := fun vs H Q _ => ∃ (D : DS) (q : Addr) (xs : List Str), vs = [.ref D.p, .ref q] ∧ Drw D H ∧ SqL K (hid D.p H) q (xs.map V.str) ∧ 0 < xs.length ∧ xs.length ≤ 60 ∧ (∀ x ∈ xs, isNm x = true) ∧
  ∀ (r : Addr) (ys : List Str) H', ys ≠ [] → (∀ y ∈ ys, y ∈ xs) → (xs.Nodup → ys.Nodup) → ys.length ≤ xs.length → sortedS ys = true → H r = none → H' r = some (.tup (ys.map V.str)) → Go D H H' → Q (.ref r) H'
section
variable {P : Program} {w : World} {K : PySem.W.Frag} {mg : Str → Option Value} {base : Heap}
theorem has_l_subset (Z : Zs mg) (A : At K mg "_law_subset" s_l_subset ["_law_state", "_law_pool"]) (h_l_draw : Has P w K mg base "_law_draw" s_l_draw 1 ["_law_state", "_law_many"] (spDraw)) (h_l_pick : Has P w K mg base "_law_pick" s_l_pick 2 ["_law_state", "_law_pool"] (spPick K)) : Has P w K mg base "_law_subset" s_l_subset 3 ["_law_state", "_law_pool"] (spSubset K) := by
  obtain ⟨f, fd, F, mg1, bd⟩ := A
  obtain ⟨f_l_draw, fd_l_draw, G_l_draw, m_l_draw, k_l_draw, b_l_draw, F_l_draw⟩ := h_l_draw
  obtain ⟨f_l_pick, fd_l_pick, G_l_pick, m_l_pick, k_l_pick, b_l_pick, F_l_pick⟩ := h_l_pick
  refine ⟨f, fd, ?_, mg1, F.kp, bd, F⟩
  refine F.ok sc_l_subset (fun vs H Q E h => ?_) (fun cdv A outer s H vs Q E hr h => ?_)
  · obtain ⟨D, p, xs, rfl, _⟩ := h
    rfl
  · obtain ⟨D, p, xs, rfl, d, hS, h0, h1, hnm, q⟩ := h
    refine ⟨_, (pss_cons (ps_asg (pe_tup (pa_cons (pe_op op_add pe_int (pe_call G_l_draw (hr.mono (by decide)) (by rfl) m_l_draw k_l_draw b_l_draw .nil pass0 (pa_cons (pv 0) (pa_cons pe_int pa_nil)))) (pa_cons (pe_call G_l_pick (hr.mono (by decide)) (by rfl) m_l_pick k_l_pick b_l_pick .nil pass0 (pa_cons (pv 0) (pa_cons (pv 1) pa_nil))) pa_nil))) (pg_tup (by rfl) (pgs_cons (pg_name (i := 2) sc_l_subset.nd rfl (Or.inr rfl)) (pgs_cons (pg_name (i := 3) sc_l_subset.nd rfl (Or.inl rfl)) pgs_nil)))) (pss_cons (ps_set (i := 4) sc_l_subset.nd rfl (Or.inr rfl) (pe_lc (own := [("_law_x", 5)]) (g := gName 5) (by rfl) sc_l_subset.nd (pi_list (pv 1)) (blkOk_by (own := [("_law_x", 5)]) (N := ["_law_state", "_law_pool", "_law_limit", "_law_spare", "_law_bits", "_law_x", "_law_some", "_law_k"]) (sc := defScope s_l_subset) (by decide +kernel)) (fun _ _ _ _ _ => pg_name (i := 5) sc_l_subset.nd rfl (Or.inl rfl)) (fun _ _ _ _ _ => pts_nil) (fun _ _ _ _ _ => (pe_call G_l_draw (hr.mono (by decide)) (by rfl) m_l_draw k_l_draw b_l_draw .nil pass0 (pa_cons (pv 0) (pa_cons pe_int pa_nil)))))) (pss_cons (ps_setLc (i := 6) (own := [("_law_k", 7)]) (g := gName 7) (by rfl) sc_l_subset.nd rfl rfl (sw_true rfl rfl rfl (by decide +kernel)) (pi_range1 (by rfl) Z.range_ (pa_cons (pe_callB call_len_seq (by rfl) Z.len_ (by decide +kernel) (pa_cons (pv 1) pa_nil)) pa_nil)) (blkOk_by (own := [("_law_k", 7)]) (N := ["_law_state", "_law_pool", "_law_limit", "_law_spare", "_law_bits", "_law_x", "_law_some", "_law_k"]) (sc := defScope s_l_subset) (by decide +kernel)) (fun _ _ _ _ _ => pg_name (i := 7) sc_l_subset.nd rfl (Or.inl rfl)) (fun _ _ _ _ _ => (pts_one (pt_cmpR op_lt (pe_ix (show IxR _ (rIxL K) from ix_list) (pv 4) (pv 7) (fun _ _ => rfl)) (pv 2) (nomark _)))) (fun _ _ _ _ _ => (pe_ix (show IxR _ (rIxL K) from ix_list) (pv 1) (pv 7) (fun _ _ => rfl)))) (pss_one (ps_ret (pe_callTy call_tuple_of (by rfl) Z.tuple_ (by decide +kernel) (pa_cons (pe_callB cr_sortedS (by rfl) Z.sorted_ (by decide +kernel) (pa_cons (pe_ifExp (pt_cmpR (op_neD hr.units) (pv 6) (pe_lst pa_nil) (nomark _)) (pv 6) (pe_lst (pa_cons (pv 3) pa_nil))) pa_nil)) pa_nil))))))), ?_⟩
    have lm : (xs.map V.str).length = xs.length := List.length_map _
    refine ⟨_, rfl, D, 3, rfl, d, by decide, by decide, fun lim H1 l0 l1 g1 => ⟨_, _, rfl, rfl, ?_⟩⟩
    refine ⟨_, rfl, _, rfl, D, p, _, rfl, g1.st, g1.sm.seq hS, by omega, by omega, fun si sv H2 hsv g2 => ?_⟩
    obtain ⟨sp, hsp, rfl⟩ := getmap hsv
    have hspm := List.mem_of_getElem? hsp
    refine ⟨(by show 2 ≤ sizeLine; decide), fun t nt => ⟨t, _, rfl, .inl (.inl upd_same), rfl, _, _, rfl, _, _, rfl, rfl, ?_⟩⟩
    have g3 := (g1.trans g2).new (o := .tup [.int (1 + lim), .str sp]) nt
    generalize upd H2 t (.tup [.int (1 + lim), .str sp]) = H3 at g3 ⊢
    -- bits
    refine ⟨_, rfl, p, rfl, ⟨_, hid_same.seq (g3.sm.seq hS)⟩, fun B nB => ?_⟩
    have nBp := g3.st.ne_new nB
    refine lc_list (K := K) (a := p) (xs := xs.map V.str) (fun i H4 => Go D H H4 ∧ ∃ bs : List Int, bs.length = i ∧ H4 B = some (.lst (bs.map V.int))) ⟨g3.new nB, [], rfl, upd_same⟩ (fun i H4 _ z => hid_same.seq (z.1.sm.seq hS)) ?_ ?_
    · rintro i y H4 hi ⟨g4, bs, lb, eb⟩
      have hil := lt_of_get hi
      refine ⟨rfl, _, rfl, D, 4, rfl, g4.st, by decide, by decide, fun b H5 b0 b1 g5 => ?_⟩
      refine ⟨_, g5.old nBp eb, slineL (by rw [List.length_map]; omega), (g4.trans g5).mut d (g3.free d nB), bs ++ [b], by rw [List.length_append, lb]; rfl, ?_⟩
      rw [upd_same, List.map_append]
      rfl
    rintro H4 ⟨g4, bs, lb, eb⟩
    -- some
    refine ⟨_, rfl, p, _, rfl, .inl (hid_same.seq (g4.sm.seq hS)), _, rfl, by omega, by omega, fun S nS => ?_⟩
    have nSp := g4.st.ne_new nS
    have nSB : B ≠ S := ne_of_none eb nS
    have en : (((xs.map V.str).length : Nat) : Int).toNat = xs.length := by omega
    rw [en]
    refine lc_range (lo := 0) (n := xs.length) (fun i H5 => Go D H H5 ∧ H5 B = some (.lst (bs.map V.int)) ∧ ∃ zs : List Str, zs.Sublist (xs.take i) ∧ H5 S = some (.lst (zs.map V.str)))
      ⟨g4.new nS, by rw [upd_ne nSB]; exact eb, [], List.Sublist.refl _, upd_same⟩ ?_ ?_
    · rintro i H5 hi ⟨g5, eb5, zs, sz, ez⟩
      obtain ⟨b, hb⟩ : ∃ b, bs[i]? = some b := ⟨_, List.getElem?_eq_getElem (by omega)⟩
      obtain ⟨x, hx⟩ : ∃ x, xs[i]? = some x := ⟨_, List.getElem?_eq_getElem hi⟩
      have i0 : ((0 : Int) + (i : Int)).toNat = i := by omega
      have et : xs.take (i + 1) = xs.take i ++ [x] := by rw [List.take_add_one, hx]; rfl
      refine ⟨rfl, _, rfl, _, rfl, B, _, _, _, rfl, rfl, .inl (.inl eb5), atI_of (by omega) (by rw [i0, List.getElem?_map, hb]; rfl), _, rfl, _, _, rfl, rfl, _, rfl, ?_⟩
      refine ite2 (fun hk => ?_) (fun hk => ?_)
      · refine ⟨_, rfl, _, rfl, p, _, _, _, rfl, rfl, hid_same.seq (g5.sm.seq hS), atI_of (by omega) (by rw [i0, List.getElem?_map, hx]; rfl), _, ez, slineL (by have := sz.length_le; rw [List.length_take] at this; rw [List.length_map]; omega), ?_⟩
        refine ⟨g5.mut d (g4.free d nS), by rw [upd_ne nSB]; exact eb5, zs ++ [x], by rw [et]; exact sz.append (List.Sublist.refl _), ?_⟩
        rw [upd_same, List.map_append]
        rfl
      · exact ⟨g5, eb5, zs, by rw [et]; exact sz.trans (List.sublist_append_left _ _), ez⟩
    rintro H5 ⟨g5, eb5, zs, sz, ez⟩
    rw [List.take_length] at sz
    have lz := sz.length_le
    have nz : ∀ x ∈ zs, isNm x = true := fun x hx => hnm x (sz.subset hx)
    refine ⟨_, rfl, Nat.zero_le _, fun u nu => ?_⟩
    have g6 := g5.new (o := .lst []) nu
    have ez6 : (upd H5 u (.lst [])) S = some (.lst (zs.map V.str)) := by rw [upd_ne (ne_of_none ez nu)]; exact ez
    have eu : (upd H5 u (.lst [])) u = some (.lst []) := upd_same
    generalize upd H5 u (.lst []) = H6 at g6 ez6 eu ⊢
    refine ⟨.list (zs.map .str), .list [], .lst (.inl (.inl ez6)) (DaAll.dp (K := K) _ _ (DaAll.strs zs)), .lst (.inl (.inl eu)) .nil, (lv_lotL (n := 0) nz (by omega)).shaped (by decide), (lv_of 1 _ (by decide +kernel) : Lv 1 (.list [])).shaped (by decide), _, rfl, ?_⟩
    have e0 : PyData.eqv (.list (zs.map .str)) (.list []) = zs.isEmpty := by
      cases zs <;> simp [PyData.eqv, PyData.eqvAll]
    rw [e0]
    refine ite2 (fun hk => ?_) (fun hk => ?_)
    · refine ⟨_, rfl, S, zs, rfl, .inl (.inl ez6), by omega, fun ys r2 pm so nr2 => ?_⟩
      refine ⟨r2, _, rfl, .inl ⟨.inl (.inl upd_same), fun r nr => ?_⟩⟩
      have g7 := (g6.new (o := .lst (ys.map V.str)) nr2).new (o := .tup (ys.map V.str)) nr
      refine q r ys _ (fun e => ?_) (fun y hy => sz.subset (pm.mem_iff.mp hy)) (fun nd => pm.nodup_iff.mpr (nd.sublist sz)) (by rw [pm.length_eq]; exact lz) so ((g6.new nr2).free d nr) upd_same g7
      subst e
      have : zs = [] := List.nil_perm.mp pm
      rw [this] at hk
      cases hk
    · refine ⟨_, rfl, (by show 1 ≤ sizeLine; decide), fun w1 nw1 => ?_⟩
      refine ⟨w1, [sp], rfl, .inl (.inl upd_same), by show 1 < 64; decide, fun ys r2 pm so nr2 => ?_⟩
      have eys : ys = [sp] := List.perm_singleton.mp pm
      subst eys
      refine ⟨r2, _, rfl, .inl ⟨.inl (.inl upd_same), fun r nr => ?_⟩⟩
      have g7 := ((g6.new (o := .lst [.str sp]) nw1).new (o := .lst ([sp].map V.str)) nr2).new (o := .tup ([sp].map V.str)) nr
      refine q r [sp] _ (List.cons_ne_nil _ _) (fun y hy => by rw [List.mem_singleton.mp hy]; exact hspm) (fun _ => List.pairwise_singleton _ _) (by show 1 ≤ xs.length; omega) so (((g6.new nw1).new nr2).free d nr) upd_same g7
end
end Th
namespace Th
open PySem PySem.Spec PyProof.Rows L2
abbrev s_l_two : Stmt := topS 36
theorem sc_l_two : FnScope ["_law_state", "_law_pool", "_law_p", "_law_way", "_law_away", "_law_x"] ["_law_state", "_law_pool"] (defScope s_l_two) := ⟨rfl, rfl, rfl, by decide +kernel, rfl, by decide +kernel, by decide +kernel⟩
/-- a lot out of a list of names -/
structure LotS (xs ps : List Str) : Prop where
  ne : ps ≠ []
  sub : ∀ y ∈ ps, y ∈ xs
  nd : ps.Nodup
  so : sortedS ps = true
  len : ps.length ≤ xs.length
theorem nd_len : ∀ {ps xs : List Str}, ps.Nodup → (∀ y ∈ ps, y ∈ xs) → ps.length ≤ xs.length
  | [], _, _, _ => Nat.zero_le _
  | p :: r, xs, nd, sub => by
    obtain ⟨n1, n2⟩ := List.nodup_cons.mp nd
    have hp := sub p List.mem_cons_self
    have := nd_len (ps := r) (xs := xs.erase p) n2 fun y hy => (List.mem_erase_of_ne fun e => n1 (by rw [← e]; exact hy)).mpr (sub y (List.mem_cons_of_mem _ hy))
    rw [List.length_erase_of_mem hp] at this
    have := List.length_pos_of_mem hp
    rw [List.length_cons]
    omega
theorem un_nd {ps zs : List Str} (h : ps.Nodup) (k : zs.Nodup) : (ps ++ zs.filter fun x => !decide (x ∈ ps)).Nodup := by
  refine List.nodup_append.mpr ⟨h, k.sublist List.filter_sublist, fun a ha b hb e => ?_⟩
  subst e
  have := (List.mem_filter.mp hb).2
  rw [decide_eq_true ha] at this
  cases this
theorem un_sub {xs ps zs : List Str} (h : ∀ y ∈ ps, y ∈ xs) (k : ∀ y ∈ zs, y ∈ xs) : ∀ y ∈ ps ++ zs.filter (fun x => !decide (x ∈ ps)), y ∈ xs := fun y hy => by
  rcases List.mem_append.mp hy with m | m
  · exact h y m
  · exact k y (List.mem_filter.mp m).1
theorem fil_step {p : Str → Bool} {xs : List Str} {i : Nat} {x : Str} (h : xs[i]? = some x) : (xs.take (i + 1)).filter p = (xs.take i).filter p ++ (if p x = true then [x] else []) := by
  rw [List.take_add_one, h, List.filter_append]
  cases hp : p x <;> simp [hp]
/-- two lots, in a new tuple -/
def spTwo (K : PySem.W.Frag) : Sp := fun vs H Q _ => ∃ (D : DS) (q : Addr) (xs : List Str), vs = [.ref D.p, .ref q] ∧ Drw D H ∧ SqL K (hid D.p H) q (xs.map V.str) ∧ 0 < xs.length ∧ xs.length ≤ 60 ∧ (∀ x ∈ xs, isNm x = true) ∧ xs.Nodup ∧
  ∀ (r A B : Addr) (ps qs : List Str) H', LotS xs ps → LotS xs qs → A ≠ D.p → B ≠ D.p → H' A = some (.tup (ps.map V.str)) → H' B = some (.tup (qs.map V.str)) → H' r = some (.tup [.ref A, .ref B]) → Go D H H' → Q (.ref r) H'
section
variable {P : Program} {w : World} {K : PySem.W.Frag} {mg : Str → Option Value} {base : Heap}
theorem has_l_two (Z : Zs mg) (A : At K mg "_law_two" s_l_two ["_law_state", "_law_pool"]) (h_l_draw : Has P w K mg base "_law_draw" s_l_draw 1 ["_law_state", "_law_many"] (spDraw)) (h_l_subset : Has P w K mg base "_law_subset" s_l_subset 3 ["_law_state", "_law_pool"] (spSubset K)) (h_l_union : Has P w K mg base "_law_union" s_l_union 1 ["_law_p", "_law_q"] (spUnion2 K)) : Has P w K mg base "_law_two" s_l_two 5 ["_law_state", "_law_pool"] (spTwo K) := by
  obtain ⟨f, fd, F, mg1, bd⟩ := A
  obtain ⟨f_l_draw, fd_l_draw, G_l_draw, m_l_draw, k_l_draw, b_l_draw, F_l_draw⟩ := h_l_draw
  obtain ⟨f_l_subset, fd_l_subset, G_l_subset, m_l_subset, k_l_subset, b_l_subset, F_l_subset⟩ := h_l_subset
  obtain ⟨f_l_union, fd_l_union, G_l_union, m_l_union, k_l_union, b_l_union, F_l_union⟩ := h_l_union
  refine ⟨f, fd, ?_, mg1, F.kp, bd, F⟩
  refine F.ok sc_l_two (fun vs H Q E h => ?_) (fun cdv A outer s H vs Q E hr h => ?_)
  · obtain ⟨D, p, xs, rfl, _⟩ := h
    rfl
  · obtain ⟨D, p, xs, rfl, d, hS, h0, h1, nm, nd, q⟩ := h
    refine ⟨_, (pss_cons (ps_asg (pe_tup (pa_cons (pe_call G_l_subset (hr.mono (by decide)) (by rfl) m_l_subset k_l_subset b_l_subset .nil pass0 (pa_cons (pv 0) (pa_cons (pv 1) pa_nil))) (pa_cons (pe_call G_l_draw (hr.mono (by decide)) (by rfl) m_l_draw k_l_draw b_l_draw .nil pass0 (pa_cons (pv 0) (pa_cons pe_int pa_nil))) pa_nil))) (pg_tup (by rfl) (pgs_cons (pg_name (i := 2) sc_l_two.nd rfl (Or.inr rfl)) (pgs_cons (pg_name (i := 3) sc_l_two.nd rfl (Or.inl rfl)) pgs_nil)))) (pss_cons (ps_if (pt_cmpR op_eq (pv 3) pe_int (nomark _)) (pss_one (ps_ret (pe_tup (pa_cons (pv 2) (pa_cons (pe_call G_l_subset (hr.mono (by decide)) (by rfl) m_l_subset k_l_subset b_l_subset .nil pass0 (pa_cons (pv 0) (pa_cons (pe_callTy call_list_of (by rfl) Z.list_ (by decide +kernel) (pa_cons (pv 2) pa_nil)) pa_nil))) pa_nil))))) pss_nil) (pss_cons (ps_if (pt_cmpR op_eq (pv 3) pe_int (nomark _)) (pss_cons (ps_setLc (i := 4) (own := [("_law_x", 5)]) (g := gName 5) (by rfl) sc_l_two.nd rfl rfl (sw_true rfl rfl rfl (by decide +kernel)) (pi_list (pv 1)) (blkOk_by (own := [("_law_x", 5)]) (N := ["_law_state", "_law_pool", "_law_p", "_law_way", "_law_away", "_law_x"]) (sc := defScope s_l_two) (by decide +kernel)) (fun _ _ _ _ _ => pg_name (i := 5) sc_l_two.nd rfl (Or.inl rfl)) (fun _ _ _ _ _ => (pts_one (pt_cmpR (show OpR _ (compareOp .NotIn) (rIn K true) from op_notIn_seq) (pv 5) (pv 2) (by rfl)))) (fun _ _ _ _ _ => (pv 5))) (pss_one (ps_ret (pe_ifExp (pt_cmpR (op_neD hr.units) (pv 4) (pe_lst pa_nil) (nomark _)) (pe_tup (pa_cons (pv 2) (pa_cons (pe_call G_l_subset (hr.mono (by decide)) (by rfl) m_l_subset k_l_subset b_l_subset .nil pass0 (pa_cons (pv 0) (pa_cons (pv 4) pa_nil))) pa_nil))) (pe_tup (pa_cons (pv 2) (pa_cons (pv 2) pa_nil))))))) pss_nil) (pss_cons (ps_if (pt_cmpR op_eq (pv 3) pe_int (nomark _)) (pss_one (ps_ret (pe_tup (pa_cons (pv 2) (pa_cons (pe_call G_l_union (hr.mono (by decide)) (by rfl) m_l_union k_l_union b_l_union .nil pass0 (pa_cons (pv 2) (pa_cons (pe_call G_l_subset (hr.mono (by decide)) (by rfl) m_l_subset k_l_subset b_l_subset .nil pass0 (pa_cons (pv 0) (pa_cons (pv 1) pa_nil))) pa_nil))) pa_nil))))) pss_nil) (pss_one (ps_ret (pe_tup (pa_cons (pv 2) (pa_cons (pe_call G_l_subset (hr.mono (by decide)) (by rfl) m_l_subset k_l_subset b_l_subset .nil pass0 (pa_cons (pv 0) (pa_cons (pv 1) pa_nil))) pa_nil))))))))), ?_⟩
    have lm : (xs.map V.str).length = xs.length := List.length_map _
    refine ⟨_, rfl, _, rfl, D, p, xs, rfl, d, hS, h0, h1, nm, fun A1 ps H1 ne1 sub1 nd1 len1 so1 nA eA g1 => ?_⟩
    have pA := d.ne_new nA
    have lA : LotS xs ps := ⟨ne1, sub1, nd1 nd, so1, len1⟩
    refine ⟨_, rfl, D, 5, rfl, g1.st, by decide, by decide, fun way H2 w0 w1 g2 => ?_⟩
    have g := g1.trans g2
    have eA2 := g2.old pA eA
    refine ⟨(by show 2 ≤ sizeLine; decide), fun t nt => ⟨t, _, rfl, .inl (.inl upd_same), rfl, _, _, rfl, _, _, rfl, rfl, ?_⟩⟩
    have g3 := g.new (o := .tup [.ref A1, .int way]) nt
    have eA3 : (upd H2 t (.tup [.ref A1, .int way])) A1 = some (.tup (ps.map V.str)) := kp eA2 nt
    generalize upd H2 t (.tup [.ref A1, .int way]) = H3 at g3 eA3 ⊢
    clear g g2 g1 eA2 eA
    have hS3 := g3.sm.seq hS
    have fin : ∀ (B : Addr) (qs : List Str) (H4 : Hp), LotS xs qs → B ≠ D.p → H4 B = some (.tup (qs.map V.str)) → Go D H3 H4 → ∀ r, H4 r = none → Q (.ref r) (upd H4 r (.tup [.ref A1, .ref B])) := fun B qs H4 lB pB eB g4 r nr => by
      refine q r A1 B ps qs _ lA lB pA pB (kp (g4.old pA eA3) nr) (kp eB nr) upd_same ((g3.trans g4).new nr)
    refine ⟨_, rfl, rfl, _, rfl, ?_⟩
    refine ite2 (fun hk => ?_) (fun _ => ?_)
    · -- one within
      refine ⟨_, rfl, _, rfl, _, rfl, A1, _, rfl, .inr (.inl (.inl eA3)), fun L nL => ?_⟩
      have pL := g3.st.ne_new nL
      have g4 := Go.of g3.st (same_new (o := .lst (ps.map V.str)) nL)
      refine ⟨D, L, ps, rfl, g4.st, sqh pL upd_same, List.length_pos_iff.mpr ne1, by have := lA.len; omega, fun x hx => nm x (sub1 x hx), fun B qs H5 ne2 sub2 nd2 len2 so2 nB eB g5 => ?_⟩
      exact ⟨by show 2 ≤ sizeLine; decide, fun r nr => fin B qs _ ⟨ne2, fun y hy => sub1 y (sub2 y hy), nd2 lA.nd, so2, Nat.le_trans len2 lA.len⟩ (g4.st.ne_new nB) eB (g4.trans g5) r nr⟩
    refine ⟨_, rfl, rfl, _, rfl, ?_⟩
    refine ite2 (fun hk => ?_) (fun _ => ?_)
    · -- one apart
      refine ⟨_, rfl, p, rfl, ⟨_, hid_same.seq hS3⟩, fun R nR => ?_⟩
      have nRp := g3.st.ne_new nR
      refine lc_list (K := K) (a := p) (xs := xs.map V.str) (fun i H4 => Same H3 H4 ∧ H4 R = some (.lst (((xs.take i).filter fun x => !decide (x ∈ ps)).map V.str))) ⟨same_new nR, upd_same⟩ (fun i H4 _ z => z.1.seq (hid_same.seq hS3)) ?_ ?_
      · rintro i y H4 hi' ⟨s4, e4⟩
        obtain ⟨x, hx, rfl⟩ := getmap hi'
        refine ⟨rfl, _, rfl, _, rfl, A1, _, rfl, .inr (.inl (.inl (s4 _ _ eA3))), rfl, flatS ps, _, rfl, ?_⟩
        rw [if_pos rfl, inS]
        have step := fil_step (p := fun x => !decide (x ∈ ps)) hx
        refine ite2 (fun hm => ?_) (fun hm => ?_)
        · refine ⟨_, rfl, _, e4, slineL (by rw [List.length_map]; have := List.length_filter_le (fun x => !decide (x ∈ ps)) (xs.take i); rw [List.length_take] at this; omega), same_mut s4 nR, ?_⟩
          rw [upd_same, step, if_pos (by simpa using hm), List.map_append]
          rfl
        · exact ⟨s4, by rw [e4, step, if_neg (by simpa using hm), List.append_nil]⟩
      rintro H4 ⟨s4, e4⟩
      rw [List.length_map, List.take_length] at e4
      have lf := List.length_filter_le (fun x => !decide (x ∈ ps)) xs
      have nmf : ∀ x ∈ xs.filter (fun x => !decide (x ∈ ps)), isNm x = true := fun x hx => nm x (List.mem_filter.mp hx).1
      have g4 := Go.of g3.st s4
      refine ⟨_, rfl, Nat.zero_le _, fun u nu => ?_⟩
      have g5 := g4.new (o := .lst []) nu
      have e5 := kp (u := .lst []) e4 nu
      have eu : (upd H4 u (.lst [])) u = some (.lst []) := upd_same
      generalize upd H4 u (.lst []) = H5 at g5 e5 eu ⊢
      refine ⟨.list ((xs.filter fun x => !decide (x ∈ ps)).map .str), .list [], (Da.newL (K := K) e5 (DaAll.strs _)).dp, (Da.newL (K := K) eu .nil).dp, (lv_lotL (n := 0) nmf (by omega)).shaped (by decide), (lv_of 1 _ (by decide +kernel) : Lv 1 (.list [])).shaped (by decide), _, rfl, ?_⟩
      have ee : PyData.eqv (.list ((xs.filter fun x => !decide (x ∈ ps)).map .str)) (.list []) = (xs.filter fun x => !decide (x ∈ ps)).isEmpty := by
        cases (xs.filter fun x => !decide (x ∈ ps)) <;> simp [PyData.eqv, PyData.eqvAll]
      rw [ee]
      refine ite2 (fun hk => ?_) (fun hk => ?_)
      · have fne : xs.filter (fun x => !decide (x ∈ ps)) ≠ [] := fun z => by rw [z] at hk; cases hk
        refine ⟨_, rfl, _, rfl, _, rfl, D, R, xs.filter fun x => !decide (x ∈ ps), rfl, g5.st, sqh nRp e5, List.length_pos_iff.mpr fne, by omega, nmf, fun B qs H6 ne2 sub2 nd2 len2 so2 nB eB g6 => ?_⟩
        exact ⟨by show 2 ≤ sizeLine; decide, fun r nr => fin B qs _ ⟨ne2, fun y hy => (List.mem_filter.mp (sub2 y hy)).1, nd2 (nd.sublist List.filter_sublist), so2, by omega⟩ (g5.st.ne_new nB) eB (g5.trans g6) r nr⟩
      · exact ⟨_, rfl, _, rfl, by show 2 ≤ sizeLine; decide, fun r nr => fin A1 ps _ lA pA (g5.old pA eA3) g5 r nr⟩
    refine ⟨_, rfl, rfl, _, rfl, ?_⟩
    refine ite2 (fun hk => ?_) (fun _ => ?_)
    · -- one around
      refine ⟨_, rfl, _, rfl, _, rfl, _, rfl, D, p, xs, rfl, g3.st, hS3, h0, h1, nm, fun B zs H5 ne2 sub2 nd2 len2 so2 nB eB g5 => ?_⟩
      have eA5 := g5.old pA eA3
      have un := un_nd lA.nd (nd2 nd)
      have us := un_sub sub1 sub2
      have ul := nd_len un us
      refine ⟨A1, B, ps, zs, rfl, .inl (.inl eA5), .inl (.inl eB), by have := lA.len; omega, by omega, by omega, fun C ys H6 py sy s6 nC eC => ?_⟩
      have g6 := Go.of g5.st s6
      refine ⟨by show 2 ≤ sizeLine; decide, fun r nr => fin C ys _ ⟨fun z => ?_, fun y hy => us y (py.mem_iff.mp hy), py.nodup_iff.mpr un, sy, by rw [py.length_eq]; exact ul⟩ (g5.st.ne_new nC) eC (g5.trans g6) r nr⟩
      rw [z] at py
      exact ne1 (List.append_eq_nil_iff.mp (List.nil_perm.mp py)).1
    refine ⟨_, rfl, _, rfl, _, rfl, D, p, xs, rfl, g3.st, hS3, h0, h1, nm, fun B qs H5 ne2 sub2 nd2 len2 so2 nB eB g5 => ?_⟩
    exact ⟨by show 2 ≤ sizeLine; decide, fun r nr => fin B qs _ ⟨ne2, sub2, nd2 nd, so2, len2⟩ (g3.st.ne_new nB) eB g5 r nr⟩
end
end Th
namespace Th
open PySem PySem.Spec PyProof.Rows L2
abbrev s_l_both : Stmt := topS 32
theorem sc_l_both : FnScope ["_law_p", "_law_q", "_law_x"] ["_law_p", "_law_q"] (defScope s_l_both) := ⟨rfl, rfl, rfl, by decide +kernel, rfl, by decide +kernel, by decide +kernel⟩

section
variable {P : Program} {w : World} {K : PySem.W.Frag} {mg : Str → Option Value} {base : Heap}
theorem has_l_both (Z : Zs mg) (A : At K mg "_law_both" s_l_both ["_law_p", "_law_q"]) : Has P w K mg base "_law_both" s_l_both 1 ["_law_p", "_law_q"] (spCut K) := by
  obtain ⟨f, fd, F, mg1, bd⟩ := A
  refine ⟨f, fd, ?_, mg1, F.kp, bd, F⟩
  refine F.ok sc_l_both (fun vs H Q E h => ?_) (fun cdv A outer s H vs Q E hr h => ?_)
  · obtain ⟨a, b, xs, zs, rfl, _⟩ := h
    rfl
  · obtain ⟨a, b, xs, zs, rfl, ha, hb, hl, q⟩ := h
    refine ⟨_, (pss_one (ps_ret (pe_callTy call_tuple_of (by rfl) Z.tuple_ (by decide +kernel) (pa_cons (pe_lc (own := [("_law_x", 2)]) (g := gName 2) (by rfl) sc_l_both.nd (pi_tup (pv 0)) (blkOk_by (own := [("_law_x", 2)]) (N := ["_law_p", "_law_q", "_law_x"]) (sc := defScope s_l_both) (by decide +kernel)) (fun _ _ _ _ _ => pg_name (i := 2) sc_l_both.nd rfl (Or.inl rfl)) (fun _ _ _ _ _ => (pts_one (pt_cmpR (show OpR _ (compareOp .In) (rIn K false) from op_in_seq) (pv 2) (pv 1) (by rfl)))) (fun _ _ _ _ _ => (pv 2))) pa_nil)))), ?_⟩
    refine ⟨_, rfl, a, rfl, ⟨_, ha⟩, fun L nL => ?_⟩
    refine lc_tup (K := K) (a := a) (xs := xs.map V.str) (fun i H2 => Same H H2 ∧ H2 L = some (.lst (((xs.take i).filter fun x => decide (x ∈ zs)).map V.str))) ⟨same_new nL, upd_same⟩ (fun i H2 _ z => same_t z.1 ha) ?_ ?_
    · rintro i y H2 hi ⟨s2, e2⟩
      obtain ⟨x, hx, rfl⟩ := getmap hi
      refine ⟨rfl, _, rfl, _, rfl, b, _, rfl, .inr (same_t s2 hb), rfl, flatS zs, _, rfl, ?_⟩
      rw [inS]
      have step := filter_step (p := fun x => decide (x ∈ zs)) hx
      refine ite2 (fun hm => ?_) (fun hm => ?_)
      · refine ⟨_, rfl, _, e2, slineL (by have := filter_short (p := fun x => decide (x ∈ zs)) (i := i) hl; omega), same_mut s2 nL, ?_⟩
        rw [upd_same, step, if_pos (by simpa using hm), List.map_append]
        rfl
      · exact ⟨s2, by rw [e2, step, if_neg (by simpa using hm), List.append_nil]⟩
    · rintro H2 ⟨s2, e2⟩
      rw [List.length_map, List.take_length] at e2
      refine ⟨L, _, rfl, .inl ⟨.inl (.inl e2), fun r nr => ?_⟩⟩
      exact q r _ (s2.trans (same_new nr)) (s2.free nr) upd_same
end
end Th
namespace Th
open PySem PySem.Spec PyProof.Rows L2
abbrev s_p_rest : Stmt := topS 17
theorem sc_p_rest : FnScope ["one", "other", "name"] ["one", "other"] (defScope s_p_rest) := ⟨rfl, rfl, rfl, by decide +kernel, rfl, by decide +kernel, by decide +kernel⟩
/-- the names of a lot that another lacks, in a new tuple -/
def spRest (K : PySem.W.Frag) : Sp := fun vs H Q _ => ∃ (a b : Addr) (xs zs : List Str), vs = [.ref a, .ref b] ∧ SqT K H a (xs.map V.str) ∧ SqT K H b (zs.map V.str) ∧ xs.length ≤ 60 ∧
  ∀ r H', Same H H' → H r = none → H' r = some (.tup ((xs.filter fun x => !decide (x ∈ zs)).map V.str)) → Q (.ref r) H'
section
variable {P : Program} {w : World} {K : PySem.W.Frag} {mg : Str → Option Value} {base : Heap}
theorem has_p_rest (Z : Zs mg) (A : At K mg "rest" s_p_rest ["one", "other"]) : Has P w K mg base "rest" s_p_rest 1 ["one", "other"] (spRest K) := by
  obtain ⟨f, fd, F, mg1, bd⟩ := A
  refine ⟨f, fd, ?_, mg1, F.kp, bd, F⟩
  refine F.ok sc_p_rest (fun vs H Q E h => ?_) (fun cdv A outer s H vs Q E hr h => ?_)
  · obtain ⟨a, b, xs, zs, rfl, _⟩ := h
    rfl
  · obtain ⟨a, b, xs, zs, rfl, ha, hb, hl, q⟩ := h
    refine ⟨_, (pss_one (ps_ret (pe_callTy call_tuple_of (by rfl) Z.tuple_ (by decide +kernel) (pa_cons (pe_lc (own := [("name", 2)]) (g := gName 2) (by rfl) sc_p_rest.nd (pi_tup (pv 0)) (blkOk_by (own := [("name", 2)]) (N := ["one", "other", "name"]) (sc := defScope s_p_rest) (by decide +kernel)) (fun _ _ _ _ _ => pg_name (i := 2) sc_p_rest.nd rfl (Or.inl rfl)) (fun _ _ _ _ _ => (pts_one (pt_cmpR (show OpR _ (compareOp .NotIn) (rIn K true) from op_notIn_seq) (pv 2) (pv 1) (by rfl)))) (fun _ _ _ _ _ => (pv 2))) pa_nil)))), ?_⟩
    refine ⟨_, rfl, a, rfl, ⟨_, ha⟩, fun L nL => ?_⟩
    refine lc_tup (K := K) (a := a) (xs := xs.map V.str) (fun i H2 => Same H H2 ∧ H2 L = some (.lst (((xs.take i).filter fun x => !decide (x ∈ zs)).map V.str))) ⟨same_new nL, upd_same⟩ (fun i H2 _ z => same_t z.1 ha) ?_ ?_
    · rintro i y H2 hi ⟨s2, e2⟩
      obtain ⟨x, hx, rfl⟩ := getmap hi
      refine ⟨rfl, _, rfl, _, rfl, b, _, rfl, .inr (same_t s2 hb), rfl, flatS zs, _, rfl, ?_⟩
      rw [inS]
      have step := filter_step (p := fun x => !decide (x ∈ zs)) hx
      refine ite2 (fun hm => ?_) (fun hm => ?_)
      · refine ⟨_, rfl, _, e2, slineL (by have := filter_short (p := fun x => !decide (x ∈ zs)) (i := i) hl; omega), same_mut s2 nL, ?_⟩
        rw [upd_same, step, if_pos (by simpa using hm), List.map_append]
        rfl
      · exact ⟨s2, by rw [e2, step, if_neg (by simpa using hm), List.append_nil]⟩
    · rintro H2 ⟨s2, e2⟩
      rw [List.length_map, List.take_length] at e2
      refine ⟨L, _, rfl, .inl ⟨.inl (.inl e2), fun r nr => ?_⟩⟩
      exact q r _ (s2.trans (same_new nr)) (s2.free nr) upd_same
end
end Th
namespace Th
open PySem PySem.Spec PyProof.Rows L2
abbrev s_l_less : Stmt := topS 33
theorem sc_l_less : FnScope ["_law_p", "_law_q", "_law_x"] ["_law_p", "_law_q"] (defScope s_l_less) := ⟨rfl, rfl, rfl, by decide +kernel, rfl, by decide +kernel, by decide +kernel⟩

section
variable {P : Program} {w : World} {K : PySem.W.Frag} {mg : Str → Option Value} {base : Heap}
theorem has_l_less (Z : Zs mg) (A : At K mg "_law_less" s_l_less ["_law_p", "_law_q"]) : Has P w K mg base "_law_less" s_l_less 1 ["_law_p", "_law_q"] (spRest K) := by
  obtain ⟨f, fd, F, mg1, bd⟩ := A
  refine ⟨f, fd, ?_, mg1, F.kp, bd, F⟩
  refine F.ok sc_l_less (fun vs H Q E h => ?_) (fun cdv A outer s H vs Q E hr h => ?_)
  · obtain ⟨a, b, xs, zs, rfl, _⟩ := h
    rfl
  · obtain ⟨a, b, xs, zs, rfl, ha, hb, hl, q⟩ := h
    refine ⟨_, (pss_one (ps_ret (pe_callTy call_tuple_of (by rfl) Z.tuple_ (by decide +kernel) (pa_cons (pe_lc (own := [("_law_x", 2)]) (g := gName 2) (by rfl) sc_l_less.nd (pi_tup (pv 0)) (blkOk_by (own := [("_law_x", 2)]) (N := ["_law_p", "_law_q", "_law_x"]) (sc := defScope s_l_less) (by decide +kernel)) (fun _ _ _ _ _ => pg_name (i := 2) sc_l_less.nd rfl (Or.inl rfl)) (fun _ _ _ _ _ => (pts_one (pt_cmpR (show OpR _ (compareOp .NotIn) (rIn K true) from op_notIn_seq) (pv 2) (pv 1) (by rfl)))) (fun _ _ _ _ _ => (pv 2))) pa_nil)))), ?_⟩
    refine ⟨_, rfl, a, rfl, ⟨_, ha⟩, fun L nL => ?_⟩
    refine lc_tup (K := K) (a := a) (xs := xs.map V.str) (fun i H2 => Same H H2 ∧ H2 L = some (.lst (((xs.take i).filter fun x => !decide (x ∈ zs)).map V.str))) ⟨same_new nL, upd_same⟩ (fun i H2 _ z => same_t z.1 ha) ?_ ?_
    · rintro i y H2 hi ⟨s2, e2⟩
      obtain ⟨x, hx, rfl⟩ := getmap hi
      refine ⟨rfl, _, rfl, _, rfl, b, _, rfl, .inr (same_t s2 hb), rfl, flatS zs, _, rfl, ?_⟩
      rw [inS]
      have step := filter_step (p := fun x => !decide (x ∈ zs)) hx
      refine ite2 (fun hm => ?_) (fun hm => ?_)
      · refine ⟨_, rfl, _, e2, slineL (by have := filter_short (p := fun x => !decide (x ∈ zs)) (i := i) hl; omega), same_mut s2 nL, ?_⟩
        rw [upd_same, step, if_pos (by simpa using hm), List.map_append]
        rfl
      · exact ⟨s2, by rw [e2, step, if_neg (by simpa using hm), List.append_nil]⟩
    · rintro H2 ⟨s2, e2⟩
      rw [List.length_map, List.take_length] at e2
      refine ⟨L, _, rfl, .inl ⟨.inl (.inl e2), fun r nr => ?_⟩⟩
      exact q r _ (s2.trans (same_new nr)) (s2.free nr) upd_same
end
end Th
namespace Th
open PySem PySem.Spec PyProof.Rows L2
abbrev s_p_joined : Stmt := topS 15
theorem sc_p_joined : FnScope ["one", "other"] ["one", "other"] (defScope s_p_joined) := ⟨rfl, rfl, rfl, by decide +kernel, rfl, by decide +kernel, by decide +kernel⟩
/-- the names of two lots, in order, in a new tuple -/
def spJoined (K : PySem.W.Frag) : Sp := fun vs H Q _ => ∃ (a b : Addr) (xs zs : List Str), vs = [.ref a, .ref b] ∧ SqT K H a (xs.map V.str) ∧ SqT K H b (zs.map V.str) ∧ xs.length ≤ 60 ∧ zs.length ≤ 60 ∧ (once [] (xs ++ zs)).length ≤ 60 ∧
  ∀ r (ys : List Str) H', ys.Perm (once [] (xs ++ zs)) → sortedS ys = true → Same H H' → H r = none → H' r = some (.tup (ys.map V.str)) → Q (.ref r) H'
section
variable {P : Program} {w : World} {K : PySem.W.Frag} {mg : Str → Option Value} {base : Heap}
theorem has_p_joined (Z : Zs mg) (A : At K mg "joined" s_p_joined ["one", "other"]) : Has P w K mg base "joined" s_p_joined 1 ["one", "other"] (spJoined K) := by
  obtain ⟨f, fd, F, mg1, bd⟩ := A
  refine ⟨f, fd, ?_, mg1, F.kp, bd, F⟩
  refine F.ok sc_p_joined (fun vs H Q E h => ?_) (fun cdv A outer s H vs Q E hr h => ?_)
  · obtain ⟨a, b, xs, zs, rfl, _⟩ := h
    rfl
  · obtain ⟨a, b, xs, zs, rfl, ha, hb, hl, hlz, ho, q⟩ := h
    refine ⟨_, (pss_one (ps_ret (pe_callTy call_tuple_of (by rfl) Z.tuple_ (by decide +kernel) (pa_cons (pe_callB (cr_sortedSetS rfl) (by rfl) Z.sorted_ (by decide +kernel) (pa_cons (pe_callTy (cr_setS rfl) (by rfl) Z.set_ (by decide +kernel) (pa_cons (pe_lst (StX.pa_star (pv 0) (StX.pa_star (pv 1) pa_nil))) pa_nil)) pa_nil)) pa_nil)))), ?_⟩
    refine ⟨_, rfl, a, _, rfl, .inl ha, _, rfl, b, _, rfl, .inl hb, ?_⟩
    have el : (xs.map V.str ++ (zs.map V.str ++ [])) = (xs ++ zs).map V.str := by rw [List.append_nil, List.map_append]
    refine ⟨sline (by simp; omega), fun L nL => ?_⟩
    rw [el]
    have s1 := same_new (o := .lst ((xs ++ zs).map V.str)) nL
    have eL : (upd H L (.lst ((xs ++ zs).map V.str))) L = some (.lst ((xs ++ zs).map V.str)) := upd_same
    generalize upd H L (.lst ((xs ++ zs).map V.str)) = H1 at s1 eL ⊢
    refine ⟨L, xs ++ zs, rfl, .inl (.inl (.inl eL)), scan_small (by rw [List.length_append]; omega), fun p np => ?_⟩
    refine ⟨p, _, rfl, upd_same, by omega, fun ys u pm so nu => ?_⟩
    refine ⟨u, _, rfl, .inl ⟨.inl (.inl upd_same), fun r nr => ?_⟩⟩
    have s4 := ((s1.trans (same_new np)).trans (same_new (o := .lst (ys.map V.str)) nu))
    exact q r ys _ pm so (s4.trans (same_new nr)) (s4.free nr) upd_same
end
end Th
namespace Th
open PySem PySem.Spec PyProof.Rows L2
abbrev s_l_cross : Stmt := topS 35
theorem sc_l_cross : FnScope ["_law_p", "_law_q"] ["_law_p", "_law_q"] (defScope s_l_cross) := ⟨rfl, rfl, rfl, by decide +kernel, rfl, by decide +kernel, by decide +kernel⟩
/-- whether two lots overlap, by their parts -/
def spCross (K : PySem.W.Frag) : Sp := fun vs H Q _ => ∃ (a b : Addr) (xs zs : List Str), vs = [.ref a, .ref b] ∧ SqT K H a (xs.map V.str) ∧ SqT K H b (zs.map V.str) ∧ xs.length ≤ 60 ∧ zs.length ≤ 60 ∧ (∀ x ∈ xs, isNm x = true) ∧ (∀ x ∈ zs, isNm x = true) ∧
  ∀ (c : Bool) H', (c = true ↔ (¬ ∀ x ∈ xs, x ∉ zs) ∧ (¬ ∀ x ∈ xs, x ∈ zs) ∧ ¬ ∀ z ∈ zs, z ∈ xs) → Same H H' → Q (.bl c) H'
theorem fil_in {xs zs : List Str} : xs.filter (fun x => decide (x ∈ zs)) = [] ↔ ∀ x ∈ xs, x ∉ zs := by
  rw [List.filter_eq_nil_iff]
  exact ⟨fun h x hx m => h x hx (decide_eq_true m), fun h x hx m => h x hx (of_decide_eq_true m)⟩
theorem fil_out {xs zs : List Str} : xs.filter (fun x => !decide (x ∈ zs)) = [] ↔ ∀ x ∈ xs, x ∈ zs := by
  rw [List.filter_eq_nil_iff]
  refine ⟨fun h x hx => ?_, fun h x hx m => ?_⟩
  · have := h x hx
    simpa using this
  · have := h x hx
    simp [this] at m
theorem eqTE (gs : List Str) : PyData.eqv (.tuple (gs.map .str)) (.tuple []) = decide (gs = []) := by
  have e1 : PyData.eqv (.tuple (gs.map .str)) (.tuple []) = PyData.eqvAll (gs.map .str) ([].map .str) := by simp [PyData.eqv]
  rw [e1, eqv_strs]
section
variable {P : Program} {w : World} {K : PySem.W.Frag} {mg : Str → Option Value} {base : Heap}
theorem has_l_cross (Z : Zs mg) (A : At K mg "_law_cross" s_l_cross ["_law_p", "_law_q"]) (h_l_both : Has P w K mg base "_law_both" s_l_both 1 ["_law_p", "_law_q"] (spCut K)) (h_l_less : Has P w K mg base "_law_less" s_l_less 1 ["_law_p", "_law_q"] (spRest K)) : Has P w K mg base "_law_cross" s_l_cross 2 ["_law_p", "_law_q"] (spCross K) := by
  obtain ⟨f, fd, F, mg1, bd⟩ := A
  obtain ⟨f_l_both, fd_l_both, G_l_both, m_l_both, k_l_both, b_l_both, F_l_both⟩ := h_l_both
  obtain ⟨f_l_less, fd_l_less, G_l_less, m_l_less, k_l_less, b_l_less, F_l_less⟩ := h_l_less
  refine ⟨f, fd, ?_, mg1, F.kp, bd, F⟩
  refine F.ok sc_l_cross (fun vs H Q E h => ?_) (fun cdv A outer s H vs Q E hr h => ?_)
  · obtain ⟨a, b, xs, zs, rfl, _⟩ := h
    rfl
  · obtain ⟨a, b, xs, zs, rfl, ha, hb, hl, hlz, nx, nz, q⟩ := h
    refine ⟨_, (pss_one (ps_ret (pe_and (pe_cmpR (op_neD hr.units) (pe_call G_l_both (hr.mono (by decide)) (by rfl) m_l_both k_l_both b_l_both .nil pass0 (pa_cons (pv 0) (pa_cons (pv 1) pa_nil))) (pe_tup pa_nil) (nomark _)) (pe_and (pe_cmpR (op_neD hr.units) (pe_call G_l_less (hr.mono (by decide)) (by rfl) m_l_less k_l_less b_l_less .nil pass0 (pa_cons (pv 0) (pa_cons (pv 1) pa_nil))) (pe_tup pa_nil) (nomark _)) (pe_one (pe_cmpR (op_neD hr.units) (pe_call G_l_less (hr.mono (by decide)) (by rfl) m_l_less k_l_less b_l_less .nil pass0 (pa_cons (pv 1) (pa_cons (pv 0) pa_nil))) (pe_tup pa_nil) (nomark _))))))), ?_⟩
    have she : SeqAt.shaped (.tuple ([] : List PyData)) = true := by decide +kernel
    have shf : ∀ {ws : List Str} {p : Str → Bool}, (∀ x ∈ ws, isNm x = true) → ws.length ≤ 60 → SeqAt.shaped (.tuple ((ws.filter p).map PyData.str)) = true := fun {ws p} h1 h2 =>
      (lv_lot (n := 0) (fun x hx => h1 x (List.mem_filter.mp hx).1) (Nat.le_trans (List.length_filter_le _ _) h2)).shaped (by decide)
    refine ⟨_, rfl, _, rfl, a, b, xs, zs, rfl, ha, hb, hl, fun r1 H1 s1 n1 e1 => ?_⟩
    refine ⟨Nat.zero_le _, fun u1 nu1 => ?_⟩
    refine ⟨.tuple ((xs.filter fun x => decide (x ∈ zs)).map .str), .tuple [], (Da.newT (K := K) (kp e1 nu1) (DaAll.strs _)).dp, (Da.newT (K := K) upd_same .nil).dp, shf nx hl, she, ?_⟩
    rw [eqTE]
    have t1 := s1.trans (same_new (o := .tup []) nu1)
    generalize upd H1 u1 (.tup []) = H2 at t1 ⊢
    have ha2 := same_t t1 ha
    have hb2 := same_t t1 hb
    refine ⟨_, rfl, ite2 (fun z1 => ?_) (fun z1 => ?_)⟩
    · have f1 : ¬ ∀ x ∈ xs, x ∉ zs := fun z => by
        rw [decide_eq_true (fil_in.mpr z)] at z1
        cases z1
      refine ⟨_, rfl, _, rfl, a, b, xs, zs, rfl, ha2, hb2, hl, fun r2 H3 s3 n3 e3 => ?_⟩
      refine ⟨Nat.zero_le _, fun u2 nu2 => ?_⟩
      refine ⟨.tuple ((xs.filter fun x => !decide (x ∈ zs)).map .str), .tuple [], (Da.newT (K := K) (kp e3 nu2) (DaAll.strs _)).dp, (Da.newT (K := K) upd_same .nil).dp, shf nx hl, she, ?_⟩
      rw [eqTE]
      have t3 := t1.trans (s3.trans (same_new (o := .tup []) nu2))
      generalize upd H3 u2 (.tup []) = H4 at t3 ⊢
      have ha4 := same_t t3 ha
      have hb4 := same_t t3 hb
      refine ⟨_, rfl, ite2 (fun z2 => ?_) (fun z2 => ?_)⟩
      · have f2 : ¬ ∀ x ∈ xs, x ∈ zs := fun z => by
          rw [decide_eq_true (fil_out.mpr z)] at z2
          cases z2
        refine ⟨_, rfl, _, rfl, b, a, zs, xs, rfl, hb4, ha4, hlz, fun r3 H5 s5 n5 e5 => ?_⟩
        refine ⟨Nat.zero_le _, fun u3 nu3 => ?_⟩
        refine ⟨.tuple ((zs.filter fun x => !decide (x ∈ xs)).map .str), .tuple [], (Da.newT (K := K) (kp e5 nu3) (DaAll.strs _)).dp, (Da.newT (K := K) upd_same .nil).dp, shf nz hlz, she, ?_⟩
        rw [eqTE]
        refine q _ _ ?_ (t3.trans (s5.trans (same_new (o := .tup []) nu3)))
        rw [Bool.not_eq_true', decide_eq_false_iff_not, fil_out]
        exact ⟨fun z => ⟨f1, f2, z⟩, fun z => z.2.2⟩
      · refine q _ _ ⟨(fun z => by cases z), fun z => ?_⟩ t3
        have z2' : ¬ xs.filter (fun x => !decide (x ∈ zs)) = [] := fun e => z.2.1 (fil_out.mp e)
        exact absurd (by rw [decide_eq_false z2']; rfl) z2
    · refine q _ _ ⟨(fun z => by cases z), fun z => ?_⟩ t1
      have z1' : ¬ xs.filter (fun x => decide (x ∈ zs)) = [] := fun e => z.1 (fil_in.mp e)
      exact absurd (by rw [decide_eq_false z1']; rfl) z1
end
end Th
namespace Th
open PySem PySem.Spec PyProof.Rows L2
abbrev s_p_are_apart : Stmt := topS 12
theorem sc_p_are_apart : FnScope ["one", "other", "name"] ["one", "other"] (defScope s_p_are_apart) := ⟨rfl, rfl, rfl, by decide +kernel, rfl, by decide +kernel, by decide +kernel⟩
/-- whether two lots have no name in common -/
def spApart (K : PySem.W.Frag) : Sp := fun vs H Q _ => ∃ (a b : Addr) (xs zs : List Str), vs = [.ref a, .ref b] ∧ SqT K H a (xs.map V.str) ∧ (SqL K H b (zs.map V.str) ∨ SqT K H b (zs.map V.str)) ∧ xs.length ≤ 60 ∧
  ∀ (c : Bool) H', (c = true ↔ ∀ x ∈ xs, x ∉ zs) → Same H H' → Q (.bl c) H'
section
variable {P : Program} {w : World} {K : PySem.W.Frag} {mg : Str → Option Value} {base : Heap}
theorem has_p_are_apart (Z : Zs mg) (A : At K mg "are_apart" s_p_are_apart ["one", "other"]) : Has P w K mg base "are_apart" s_p_are_apart 1 ["one", "other"] (spApart K) := by
  obtain ⟨f, fd, F, mg1, bd⟩ := A
  refine ⟨f, fd, ?_, mg1, F.kp, bd, F⟩
  refine F.ok sc_p_are_apart (fun vs H Q E h => ?_) (fun cdv A outer s H vs Q E hr h => ?_)
  · obtain ⟨a, b, xs, zs, rfl, _⟩ := h
    rfl
  · obtain ⟨a, b, xs, zs, rfl, ha, hb, hl, q⟩ := h
    refine ⟨_, (pss_one (ps_ret (pe_not (pe_callB (cr_any rfl) (by rfl) Z.any_ (by decide +kernel) (pa_cons (pe_lc (own := [("name", 2)]) (g := gName 2) (by rfl) sc_p_are_apart.nd (pi_tup (pv 0)) (blkOk_by (own := [("name", 2)]) (N := ["one", "other", "name"]) (sc := defScope s_p_are_apart) (by decide +kernel)) (fun _ _ _ _ _ => pg_name (i := 2) sc_p_are_apart.nd rfl (Or.inl rfl)) (fun _ _ _ _ _ => pts_nil) (fun _ _ _ _ _ => (pe_cmpR (show OpR _ (compareOp .In) (rIn K false) from op_in_seq) (pv 2) (pv 1) (by rfl)))) pa_nil))))), ?_⟩
    refine ⟨_, rfl, a, rfl, ⟨_, ha⟩, fun L nL => ?_⟩
    refine lc_tup (K := K) (a := a) (xs := xs.map V.str) (fun i H2 => Same H H2 ∧ H2 L = some (.lst (((xs.take i).map fun x => decide (x ∈ zs)).map V.bl))) ⟨same_new nL, upd_same⟩ (fun i H2 _ z => same_t z.1 ha) ?_ ?_
    · rintro i y H2 hi ⟨s2, e2⟩
      obtain ⟨x, hx, rfl⟩ := getmap hi
      have hb2 : SqL K H2 b (zs.map V.str) ∨ SqT K H2 b (zs.map V.str) := hb.elim (fun z => .inl (s2.seq z)) (fun z => .inr (same_t s2 z))
      refine ⟨rfl, _, rfl, _, rfl, b, _, rfl, hb2, rfl, flatS zs, ?_⟩
      rw [if_neg Bool.false_ne_true, inS]
      refine ⟨_, e2, slineL (by rw [List.length_map, List.length_map, List.length_take]; omega), same_mut s2 nL, ?_⟩
      rw [upd_same, take_succ_map hx, List.map_append]
      rfl
    · rintro H2 ⟨s2, e2⟩
      rw [List.length_map, List.take_length] at e2
      refine ⟨L, _, rfl, .inl (.inl e2), ?_⟩
      refine ⟨_, rfl, q _ _ ?_ s2⟩
      rw [List.any_map, Bool.not_eq_true', List.any_eq_false]
      exact ⟨fun z x hx m => z x hx (decide_eq_true m), fun z x hx m => z x hx (of_decide_eq_true m)⟩
end
end Th
namespace Th
open PySem PySem.Spec PyProof.Rows L2
abbrev s_p_is_within : Stmt := topS 14
theorem sc_p_is_within : FnScope ["one", "other", "name"] ["one", "other"] (defScope s_p_is_within) := ⟨rfl, rfl, rfl, by decide +kernel, rfl, by decide +kernel, by decide +kernel⟩
/-- whether all names of a lot stand in another, or in a list -/
def spWithin (K : PySem.W.Frag) : Sp := fun vs H Q _ => ∃ (a b : Addr) (xs zs : List Str), vs = [.ref a, .ref b] ∧ SqT K H a (xs.map V.str) ∧ (SqL K H b (zs.map V.str) ∨ SqT K H b (zs.map V.str)) ∧ xs.length ≤ 60 ∧
  ∀ (c : Bool) H', (c = true ↔ ∀ x ∈ xs, x ∈ zs) → Same H H' → Q (.bl c) H'
section
variable {P : Program} {w : World} {K : PySem.W.Frag} {mg : Str → Option Value} {base : Heap}
theorem has_p_is_within (Z : Zs mg) (A : At K mg "is_within" s_p_is_within ["one", "other"]) : Has P w K mg base "is_within" s_p_is_within 1 ["one", "other"] (spWithin K) := by
  obtain ⟨f, fd, F, mg1, bd⟩ := A
  refine ⟨f, fd, ?_, mg1, F.kp, bd, F⟩
  refine F.ok sc_p_is_within (fun vs H Q E h => ?_) (fun cdv A outer s H vs Q E hr h => ?_)
  · obtain ⟨a, b, xs, zs, rfl, _⟩ := h
    rfl
  · obtain ⟨a, b, xs, zs, rfl, ha, hb, hl, q⟩ := h
    refine ⟨_, (pss_one (ps_ret (pe_callB (cr_all rfl) (by rfl) Z.all_ (by decide +kernel) (pa_cons (pe_lc (own := [("name", 2)]) (g := gName 2) (by rfl) sc_p_is_within.nd (pi_tup (pv 0)) (blkOk_by (own := [("name", 2)]) (N := ["one", "other", "name"]) (sc := defScope s_p_is_within) (by decide +kernel)) (fun _ _ _ _ _ => pg_name (i := 2) sc_p_is_within.nd rfl (Or.inl rfl)) (fun _ _ _ _ _ => pts_nil) (fun _ _ _ _ _ => (pe_cmpR (show OpR _ (compareOp .In) (rIn K false) from op_in_seq) (pv 2) (pv 1) (by rfl)))) pa_nil)))), ?_⟩
    refine ⟨_, rfl, a, rfl, ⟨_, ha⟩, fun L nL => ?_⟩
    refine lc_tup (K := K) (a := a) (xs := xs.map V.str) (fun i H2 => Same H H2 ∧ H2 L = some (.lst (((xs.take i).map fun x => decide (x ∈ zs)).map V.bl))) ⟨same_new nL, upd_same⟩ (fun i H2 _ z => same_t z.1 ha) ?_ ?_
    · rintro i y H2 hi ⟨s2, e2⟩
      obtain ⟨x, hx, rfl⟩ := getmap hi
      have hb2 : SqL K H2 b (zs.map V.str) ∨ SqT K H2 b (zs.map V.str) := hb.elim (fun z => .inl (s2.seq z)) (fun z => .inr (same_t s2 z))
      refine ⟨rfl, _, rfl, _, rfl, b, _, rfl, hb2, rfl, flatS zs, ?_⟩
      rw [if_neg Bool.false_ne_true, inS]
      refine ⟨_, e2, slineL (by rw [List.length_map, List.length_map, List.length_take]; omega), same_mut s2 nL, ?_⟩
      rw [upd_same, take_succ_map hx, List.map_append]
      rfl
    · rintro H2 ⟨s2, e2⟩
      rw [List.length_map, List.take_length] at e2
      refine ⟨L, _, rfl, .inl (.inl e2), ?_⟩
      refine q _ _ ?_ s2
      rw [List.all_map, List.all_eq_true]
      exact ⟨fun z x hx => of_decide_eq_true (z x hx), fun z x hx => decide_eq_true (z x hx)⟩
end
end Th
namespace Th
open PySem PySem.Spec PyProof.Rows L2
abbrev s_p_overlap : Stmt := topS 13
theorem sc_p_overlap : FnScope ["one", "other"] ["one", "other"] (defScope s_p_overlap) := ⟨rfl, rfl, rfl, by decide +kernel, rfl, by decide +kernel, by decide +kernel⟩
/-- whether two lots overlap -/
def spOver (K : PySem.W.Frag) : Sp := fun vs H Q _ => ∃ (a b : Addr) (xs zs : List Str), vs = [.ref a, .ref b] ∧ SqT K H a (xs.map V.str) ∧ SqT K H b (zs.map V.str) ∧ xs.length ≤ 60 ∧ zs.length ≤ 60 ∧
  ∀ (c : Bool) H', (c = true ↔ (¬ ∀ x ∈ xs, x ∉ zs) ∧ (¬ ∀ x ∈ xs, x ∈ zs) ∧ ¬ ∀ z ∈ zs, z ∈ xs) → Same H H' → Q (.bl c) H'
section
variable {P : Program} {w : World} {K : PySem.W.Frag} {mg : Str → Option Value} {base : Heap}
theorem has_p_overlap (Z : Zs mg) (A : At K mg "overlap" s_p_overlap ["one", "other"]) (h_p_are_apart : Has P w K mg base "are_apart" s_p_are_apart 1 ["one", "other"] (spApart K)) (h_p_is_within : Has P w K mg base "is_within" s_p_is_within 1 ["one", "other"] (spWithin K)) : Has P w K mg base "overlap" s_p_overlap 2 ["one", "other"] (spOver K) := by
  obtain ⟨f, fd, F, mg1, bd⟩ := A
  obtain ⟨f_p_are_apart, fd_p_are_apart, G_p_are_apart, m_p_are_apart, k_p_are_apart, b_p_are_apart, F_p_are_apart⟩ := h_p_are_apart
  obtain ⟨f_p_is_within, fd_p_is_within, G_p_is_within, m_p_is_within, k_p_is_within, b_p_is_within, F_p_is_within⟩ := h_p_is_within
  refine ⟨f, fd, ?_, mg1, F.kp, bd, F⟩
  refine F.ok sc_p_overlap (fun vs H Q E h => ?_) (fun cdv A outer s H vs Q E hr h => ?_)
  · obtain ⟨a, b, xs, zs, rfl, _⟩ := h
    rfl
  · obtain ⟨a, b, xs, zs, rfl, ha, hb, hl, hlz, q⟩ := h
    refine ⟨_, (pss_one (ps_ret (pe_and (pe_not (pe_call G_p_are_apart (hr.mono (by decide)) (by rfl) m_p_are_apart k_p_are_apart b_p_are_apart .nil pass0 (pa_cons (pv 0) (pa_cons (pv 1) pa_nil)))) (pe_and (pe_not (pe_call G_p_is_within (hr.mono (by decide)) (by rfl) m_p_is_within k_p_is_within b_p_is_within .nil pass0 (pa_cons (pv 0) (pa_cons (pv 1) pa_nil)))) (pe_one (pe_not (pe_call G_p_is_within (hr.mono (by decide)) (by rfl) m_p_is_within k_p_is_within b_p_is_within .nil pass0 (pa_cons (pv 1) (pa_cons (pv 0) pa_nil))))))))), ?_⟩
    refine ⟨_, rfl, _, rfl, a, b, xs, zs, rfl, ha, .inr hb, hl, fun c1 H1 h1 s1 => ?_⟩
    have ha1 := same_t s1 ha
    have hb1 := same_t s1 hb
    have fin : ∀ (c : Bool) (H' : Hp), (c = true ↔ (¬ ∀ x ∈ xs, x ∉ zs) ∧ (¬ ∀ x ∈ xs, x ∈ zs) ∧ ¬ ∀ z ∈ zs, z ∈ xs) → Same H H' → Q (.bl c) H' := q
    refine ⟨_, rfl, _, rfl, ite2 (fun e1 => ?_) (fun e1 => ?_)⟩
    · have n1 : c1 = false := by simpa using e1
      have f1 : ¬ ∀ x ∈ xs, x ∉ zs := fun z => by rw [h1.mpr z] at n1; cases n1
      refine ⟨_, rfl, _, rfl, a, b, xs, zs, rfl, ha1, .inr hb1, hl, fun c2 H2 h2 s2 => ⟨_, rfl, _, rfl, ite2 (fun e2 => ?_) (fun e2 => ?_)⟩⟩
      · have n2 : c2 = false := by simpa using e2
        have f2 : ¬ ∀ x ∈ xs, x ∈ zs := fun z => by rw [h2.mpr z] at n2; cases n2
        refine ⟨_, rfl, _, rfl, b, a, zs, xs, rfl, same_t s2 hb1, .inr (same_t s2 ha1), hlz, fun c3 H3 h3 s3 => ⟨_, rfl, ?_⟩⟩
        refine fin _ _ ?_ ((s1.trans s2).trans s3)
        constructor
        · intro z
          have n3 : c3 = false := by simpa using z
          exact ⟨f1, f2, fun z => by rw [h3.mpr z] at n3; cases n3⟩
        · rintro ⟨_, _, f3⟩
          cases c3 with
          | false => rfl
          | true => exact absurd (h3.mp rfl) f3
      · have n2 : c2 = true := by simpa using e2
        refine fin _ _ ⟨fun z => ?_, fun z => absurd (h2.mp n2) z.2.1⟩ (s1.trans s2)
        cases z
    · have n1 : c1 = true := by simpa using e1
      refine fin _ _ ⟨fun z => ?_, fun z => absurd (h1.mp n1) z.1⟩ s1
      cases z
end
end Th
namespace Th
open PySem PySem.Spec PyProof.Rows L2
abbrev s_l_pair_so : Stmt := topS 37
theorem sc_l_pair_so : FnScope ["_law_p", "_law_q", "_law_due"] ["_law_p", "_law_q"] (defScope s_l_pair_so) := ⟨rfl, rfl, rfl, by decide +kernel, rfl, by decide +kernel, by decide +kernel⟩
/-- what is said of two lots -/
def spPairSo (K : PySem.W.Frag) : Sp := fun vs H Q _ => ∃ (a b : Addr) (xs zs : List Str), vs = [.ref a, .ref b] ∧ SqT K H a (xs.map V.str) ∧ SqT K H b (zs.map V.str) ∧ xs.length ≤ 60 ∧ zs.length ≤ 60 ∧ (xs ++ zs.filter fun x => !decide (x ∈ xs)).length ≤ 60 ∧ (∀ x ∈ xs, isNm x = true) ∧ (∀ x ∈ zs, isNm x = true) ∧ xs.Nodup ∧ zs.Nodup ∧
  ∀ H', Same H H' → Q (.bl true) H'
theorem un_once {ps zs : List Str} (h : ps.Nodup) (k : zs.Nodup) : (once [] (ps ++ zs)).Perm (ps ++ zs.filter fun x => !decide (x ∈ ps)) := by
  refine (List.perm_ext_iff_of_nodup (once_nodup _ [] List.nodup_nil) ?_).mpr fun y => ?_
  · refine List.nodup_append.mpr ⟨h, k.sublist List.filter_sublist, fun a ha b hb e => ?_⟩
    subst e
    have := (List.mem_filter.mp hb).2
    rw [decide_eq_true ha] at this
    cases this
  · rw [once_mem]
    simp only [List.mem_append, List.mem_filter, List.not_mem_nil, false_or, Bool.not_eq_true', decide_eq_false_iff_not]
    constructor
    · intro z
      rcases z with z | z
      · exact .inl z
      · by_cases m : y ∈ ps
        · exact .inl m
        · exact .inr ⟨z, m⟩
    · intro z
      rcases z with z | z
      · exact .inl z
      · exact .inr z.1
section
variable {P : Program} {w : World} {K : PySem.W.Frag} {mg : Str → Option Value} {base : Heap}
theorem has_l_pair_so (Z : Zs mg) (A : At K mg "_law_pair_so" s_l_pair_so ["_law_p", "_law_q"]) (h_l_union : Has P w K mg base "_law_union" s_l_union 1 ["_law_p", "_law_q"] (spUnion2 K)) (h_l_both : Has P w K mg base "_law_both" s_l_both 1 ["_law_p", "_law_q"] (spCut K)) (h_l_less : Has P w K mg base "_law_less" s_l_less 1 ["_law_p", "_law_q"] (spRest K)) (h_l_same : Has P w K mg base "_law_same" s_l_same 6 ["_law_got", "_law_due"] (spSm K 6)) (h_p_joined : Has P w K mg base "joined" s_p_joined 1 ["one", "other"] (spJoined K)) (h_p_common : Has P w K mg base "common" s_p_common 1 ["one", "other"] (spCut K)) (h_p_rest : Has P w K mg base "rest" s_p_rest 1 ["one", "other"] (spRest K)) (h_l_cross : Has P w K mg base "_law_cross" s_l_cross 2 ["_law_p", "_law_q"] (spCross K)) (h_p_are_apart : Has P w K mg base "are_apart" s_p_are_apart 1 ["one", "other"] (spApart K)) (h_p_overlap : Has P w K mg base "overlap" s_p_overlap 2 ["one", "other"] (spOver K)) (h_p_is_within : Has P w K mg base "is_within" s_p_is_within 1 ["one", "other"] (spWithin K)) : Has P w K mg base "_law_pair_so" s_l_pair_so 7 ["_law_p", "_law_q"] (spPairSo K) := by
  obtain ⟨f, fd, F, mg1, bd⟩ := A
  obtain ⟨f_l_union, fd_l_union, G_l_union, m_l_union, k_l_union, b_l_union, F_l_union⟩ := h_l_union
  obtain ⟨f_l_both, fd_l_both, G_l_both, m_l_both, k_l_both, b_l_both, F_l_both⟩ := h_l_both
  obtain ⟨f_l_less, fd_l_less, G_l_less, m_l_less, k_l_less, b_l_less, F_l_less⟩ := h_l_less
  obtain ⟨f_l_same, fd_l_same, G_l_same, m_l_same, k_l_same, b_l_same, F_l_same⟩ := h_l_same
  obtain ⟨f_p_joined, fd_p_joined, G_p_joined, m_p_joined, k_p_joined, b_p_joined, F_p_joined⟩ := h_p_joined
  obtain ⟨f_p_common, fd_p_common, G_p_common, m_p_common, k_p_common, b_p_common, F_p_common⟩ := h_p_common
  obtain ⟨f_p_rest, fd_p_rest, G_p_rest, m_p_rest, k_p_rest, b_p_rest, F_p_rest⟩ := h_p_rest
  obtain ⟨f_l_cross, fd_l_cross, G_l_cross, m_l_cross, k_l_cross, b_l_cross, F_l_cross⟩ := h_l_cross
  obtain ⟨f_p_are_apart, fd_p_are_apart, G_p_are_apart, m_p_are_apart, k_p_are_apart, b_p_are_apart, F_p_are_apart⟩ := h_p_are_apart
  obtain ⟨f_p_overlap, fd_p_overlap, G_p_overlap, m_p_overlap, k_p_overlap, b_p_overlap, F_p_overlap⟩ := h_p_overlap
  obtain ⟨f_p_is_within, fd_p_is_within, G_p_is_within, m_p_is_within, k_p_is_within, b_p_is_within, F_p_is_within⟩ := h_p_is_within
  refine ⟨f, fd, ?_, mg1, F.kp, bd, F⟩
  refine F.ok sc_l_pair_so (fun vs H Q E h => ?_) (fun cdv A outer s H vs Q E hr h => ?_)
  · obtain ⟨a, b, xs, zs, rfl, _⟩ := h
    rfl
  · obtain ⟨a, b, xs, zs, rfl, ha, hb, hl, hlz, hu, nx, nz, dx, dz, q⟩ := h
    have kb_p_joined : KBinds K fd_p_joined ["one", "other"] ["other", "one"] g2 g2 := kb_of F_p_joined g2_rel (fun kV doc pm an cdv ct us ws hl => by
      match us, ws, hl with
      | [], [_, _], _ => rfl
      | [], [], e => cases e
      | [], [_], e => cases e
      | [], _ :: _ :: _ :: _, e => cases e
      | _ :: _, [], e => cases e
      | _ :: _, _ :: _, e => cases e)
    have kb_p_common : KBinds K fd_p_common ["one", "other"] ["other", "one"] g2 g2 := kb_of F_p_common g2_rel (fun kV doc pm an cdv ct us ws hl => by
      match us, ws, hl with
      | [], [_, _], _ => rfl
      | [], [], e => cases e
      | [], [_], e => cases e
      | [], _ :: _ :: _ :: _, e => cases e
      | _ :: _, [], e => cases e
      | _ :: _, _ :: _, e => cases e)
    have kb_p_rest : KBinds K fd_p_rest ["one", "other"] ["other", "one"] g2 g2 := kb_of F_p_rest g2_rel (fun kV doc pm an cdv ct us ws hl => by
      match us, ws, hl with
      | [], [_, _], _ => rfl
      | [], [], e => cases e
      | [], [_], e => cases e
      | [], _ :: _ :: _ :: _, e => cases e
      | _ :: _, [], e => cases e
      | _ :: _, _ :: _, e => cases e)
    have kb_p_are_apart : KBinds K fd_p_are_apart ["one", "other"] ["other", "one"] g2 g2 := kb_of F_p_are_apart g2_rel (fun kV doc pm an cdv ct us ws hl => by
      match us, ws, hl with
      | [], [_, _], _ => rfl
      | [], [], e => cases e
      | [], [_], e => cases e
      | [], _ :: _ :: _ :: _, e => cases e
      | _ :: _, [], e => cases e
      | _ :: _, _ :: _, e => cases e)
    have kb_p_overlap : KBinds K fd_p_overlap ["one", "other"] ["other", "one"] g2 g2 := kb_of F_p_overlap g2_rel (fun kV doc pm an cdv ct us ws hl => by
      match us, ws, hl with
      | [], [_, _], _ => rfl
      | [], [], e => cases e
      | [], [_], e => cases e
      | [], _ :: _ :: _ :: _, e => cases e
      | _ :: _, [], e => cases e
      | _ :: _, _ :: _, e => cases e)
    have kb_p_is_within : KBinds K fd_p_is_within ["one", "other"] ["other", "one"] g2 g2 := kb_of F_p_is_within g2_rel (fun kV doc pm an cdv ct us ws hl => by
      match us, ws, hl with
      | [], [_, _], _ => rfl
      | [], [], e => cases e
      | [], [_], e => cases e
      | [], _ :: _ :: _ :: _, e => cases e
      | _ :: _, [], e => cases e
      | _ :: _, _ :: _, e => cases e)
    refine ⟨_, (pss_cons (ps_set (i := 2) sc_l_pair_so.nd rfl (Or.inl rfl) (pe_lst (pa_cons (pe_call G_l_union (hr.mono (by decide)) (by rfl) m_l_union k_l_union b_l_union .nil pass0 (pa_cons (pv 0) (pa_cons (pv 1) pa_nil))) (pa_cons (pe_call G_l_both (hr.mono (by decide)) (by rfl) m_l_both k_l_both b_l_both .nil pass0 (pa_cons (pv 0) (pa_cons (pv 1) pa_nil))) (pa_cons (pe_call G_l_less (hr.mono (by decide)) (by rfl) m_l_less k_l_less b_l_less .nil pass0 (pa_cons (pv 0) (pa_cons (pv 1) pa_nil))) pa_nil))))) (pss_cons (ps_if (pt_not (pt_val (pe_call G_l_same (hr.mono (by decide)) (by rfl) m_l_same k_l_same b_l_same .nil pass0 (pa_cons (pe_lst (pa_cons (pe_call G_p_joined (hr.mono (by decide)) (by rfl) m_p_joined k_p_joined b_p_joined .nil pass0 (pa_cons (pv 0) (pa_cons (pv 1) pa_nil))) (pa_cons (pe_call G_p_common (hr.mono (by decide)) (by rfl) m_p_common k_p_common b_p_common .nil pass0 (pa_cons (pv 0) (pa_cons (pv 1) pa_nil))) (pa_cons (pe_call G_p_rest (hr.mono (by decide)) (by rfl) m_p_rest k_p_rest b_p_rest .nil pass0 (pa_cons (pv 0) (pa_cons (pv 1) pa_nil))) pa_nil)))) (pa_cons (pv 2) pa_nil))))) (pss_one (ps_ret pe_bl)) pss_nil) (pss_cons (ps_if (pt_not (pt_val (pe_call G_l_same (hr.mono (by decide)) (by rfl) m_l_same k_l_same b_l_same .nil pass0 (pa_cons (pe_lst (pa_cons (pe_callK0 G_p_joined (hr.mono (by decide)) (by rfl) m_p_joined k_p_joined kb_p_joined pass0 (pk_cons (pv 1) (pk_cons (pv 0) pk_nil))) (pa_cons (pe_callK0 G_p_common (hr.mono (by decide)) (by rfl) m_p_common k_p_common kb_p_common pass0 (pk_cons (pv 1) (pk_cons (pv 0) pk_nil))) (pa_cons (pe_callK0 G_p_rest (hr.mono (by decide)) (by rfl) m_p_rest k_p_rest kb_p_rest pass0 (pk_cons (pv 1) (pk_cons (pv 0) pk_nil))) pa_nil)))) (pa_cons (pv 2) pa_nil))))) (pss_one (ps_ret pe_bl)) pss_nil) (pss_cons (ps_set (i := 2) sc_l_pair_so.nd rfl (Or.inl rfl) (pe_lst (pa_cons (pe_cmpR (op_eqD hr.units) (pe_call G_l_both (hr.mono (by decide)) (by rfl) m_l_both k_l_both b_l_both .nil pass0 (pa_cons (pv 0) (pa_cons (pv 1) pa_nil))) (pe_tup pa_nil) (nomark _)) (pa_cons (pe_call G_l_cross (hr.mono (by decide)) (by rfl) m_l_cross k_l_cross b_l_cross .nil pass0 (pa_cons (pv 0) (pa_cons (pv 1) pa_nil))) (pa_cons (pe_cmpR (op_eqD hr.units) (pe_call G_l_less (hr.mono (by decide)) (by rfl) m_l_less k_l_less b_l_less .nil pass0 (pa_cons (pv 0) (pa_cons (pv 1) pa_nil))) (pe_tup pa_nil) (nomark _)) pa_nil))))) (pss_cons (ps_if (pt_not (pt_val (pe_call G_l_same (hr.mono (by decide)) (by rfl) m_l_same k_l_same b_l_same .nil pass0 (pa_cons (pe_lst (pa_cons (pe_call G_p_are_apart (hr.mono (by decide)) (by rfl) m_p_are_apart k_p_are_apart b_p_are_apart .nil pass0 (pa_cons (pv 0) (pa_cons (pv 1) pa_nil))) (pa_cons (pe_call G_p_overlap (hr.mono (by decide)) (by rfl) m_p_overlap k_p_overlap b_p_overlap .nil pass0 (pa_cons (pv 0) (pa_cons (pv 1) pa_nil))) (pa_cons (pe_call G_p_is_within (hr.mono (by decide)) (by rfl) m_p_is_within k_p_is_within b_p_is_within .nil pass0 (pa_cons (pv 0) (pa_cons (pv 1) pa_nil))) pa_nil)))) (pa_cons (pv 2) pa_nil))))) (pss_one (ps_ret pe_bl)) pss_nil) (pss_one (ps_ret (pe_call G_l_same (hr.mono (by decide)) (by rfl) m_l_same k_l_same b_l_same .nil pass0 (pa_cons (pe_lst (pa_cons (pe_callK0 G_p_are_apart (hr.mono (by decide)) (by rfl) m_p_are_apart k_p_are_apart kb_p_are_apart pass0 (pk_cons (pv 1) (pk_cons (pv 0) pk_nil))) (pa_cons (pe_callK0 G_p_overlap (hr.mono (by decide)) (by rfl) m_p_overlap k_p_overlap kb_p_overlap pass0 (pk_cons (pv 1) (pk_cons (pv 0) pk_nil))) (pa_cons (pe_callK0 G_p_is_within (hr.mono (by decide)) (by rfl) m_p_is_within k_p_is_within kb_p_is_within pass0 (pk_cons (pv 1) (pk_cons (pv 0) pk_nil))) pa_nil)))) (pa_cons (pv 2) pa_nil)))))))))), ?_⟩
    refine ⟨_, rfl, _, rfl, a, b, xs, zs, rfl, ha, hb, hl, hlz, hu, fun U us H1 pu su s1 nU eU => ?_⟩
    refine ⟨_, rfl, _, rfl, a, b, xs, zs, rfl, same_t s1 ha, same_t s1 hb, hl, fun V1 H2 s2 nV eV => ?_⟩
    have t2 := s1.trans s2
    refine ⟨_, rfl, _, rfl, a, b, xs, zs, rfl, same_t t2 ha, same_t t2 hb, hl, fun W1 H3 s3 nW eW => ?_⟩
    have t3 := t2.trans s3
    refine ⟨by show 3 ≤ sizeLine; decide, fun L nL => ?_⟩
    have s4 := same_new (o := .lst [.ref U, .ref V1, .ref W1]) nL
    have t4 := t3.trans s4
    have eU4 := (s2.trans (s3.trans s4)) _ _ eU
    have eV4 := (s3.trans s4) _ _ eV
    have eW4 := s4 _ _ eW
    have eL4 : (upd H3 L (.lst [.ref U, .ref V1, .ref W1])) L = some (.lst [.ref U, .ref V1, .ref W1]) := upd_same
    generalize upd H3 L (.lst [.ref U, .ref V1, .ref W1]) = H4 at t4 eU4 eV4 eW4 eL4 ⊢
    clear s1 s2 s3 s4 t2 t3 nU nV nW nL eU eV eW
    have onceU := un_once dx dz
    have lvU : Lv 4 (.tuple (us.map .str)) := lv_lot (n := 3) (fun x hx => by
      rcases List.mem_append.mp (pu.mem_iff.mp hx) with m | m
      · exact nx x m
      · exact nz x (List.mem_filter.mp m).1) (by rw [pu.length_eq]; exact hu)
    have lvV : Lv 4 (.tuple ((xs.filter fun x => decide (x ∈ zs)).map .str)) := lv_lot (n := 3) (fun x hx => nx x (List.mem_filter.mp hx).1) (Nat.le_trans (List.length_filter_le _ _) hl)
    have lvW : Lv 4 (.tuple ((xs.filter fun x => !decide (x ∈ zs)).map .str)) := lv_lot (n := 3) (fun x hx => nx x (List.mem_filter.mp hx).1) (Nat.le_trans (List.length_filter_le _ _) hl)
    have lvD : ∀ x ∈ [PyData.tuple (us.map .str), .tuple ((xs.filter fun x => decide (x ∈ zs)).map .str), .tuple ((xs.filter fun x => !decide (x ∈ zs)).map .str)], Lv 4 x := fun x hx => by
      rcases List.mem_cons.mp hx with e | m
      · rw [e]; exact lvU
      · rcases List.mem_cons.mp m with e | m
        · rw [e]; exact lvV
        · rw [List.mem_singleton.mp m]; exact lvW
    have ha4 := same_t t4 ha
    have hb4 := same_t t4 hb
    -- 1
    refine ⟨_, rfl, _, rfl, a, b, xs, zs, rfl, ha4, hb4, hl, hlz, by rw [onceU.length_eq]; exact hu, fun J ys H5 py sy s5 nJ eJ => ?_⟩
    have ey : us = ys := sorted_one (pu.trans (onceU.symm.trans py.symm)) (sorted_pair su) (sorted_pair sy)
    subst ey
    refine ⟨_, rfl, _, rfl, a, b, xs, zs, rfl, same_t s5 ha4, same_t s5 hb4, hl, fun C H6 s6 nC eC => ?_⟩
    have s56 := s5.trans s6
    refine ⟨_, rfl, _, rfl, a, b, xs, zs, rfl, same_t s56 ha4, same_t s56 hb4, hl, fun R H7 s7 nR eR => ?_⟩
    refine ⟨by show 3 ≤ sizeLine; decide, fun M nM => ?_⟩
    have s8 := same_new (o := .lst [.ref J, .ref C, .ref R]) nM
    have s48 := s56.trans (s7.trans s8)
    have eM : (upd H7 M (.lst [.ref J, .ref C, .ref R])) M = some (.lst [.ref J, .ref C, .ref R]) := upd_same
    have eJ8 := (s6.trans (s7.trans s8)) _ _ eJ
    have eC8 := (s7.trans s8) _ _ eC
    have eR8 := s8 _ _ eR
    generalize upd H7 M (.lst [.ref J, .ref C, .ref R]) = H8 at s48 eM eJ8 eC8 eR8 ⊢
    refine ⟨_, rfl, .ref M, .ref L, .list [PyData.tuple (us.map .str), .tuple ((xs.filter fun x => decide (x ∈ zs)).map .str), .tuple ((xs.filter fun x => !decide (x ∈ zs)).map .str)], rfl,
      Da.newL eM (.cons (Da.newT eJ8 (DaAll.strs _)) (.cons (Da.newT eC8 (DaAll.strs _)) (.cons (Da.newT eR8 (DaAll.strs _)) .nil))),
      Da.newL (s48 _ _ eL4) (.cons (Da.newT (s48 _ _ eU4) (DaAll.strs _)) (.cons (Da.newT (s48 _ _ eV4) (DaAll.strs _)) (.cons (Da.newT (s48 _ _ eW4) (DaAll.strs _)) .nil))), ⟨by show 3 ≤ 60; decide, lvD⟩, fun H9 s9 => ⟨_, rfl, iteF ?_⟩⟩
    have t9 := t4.trans (s48.trans s9)
    have ha4 := same_t t9 ha
    have hb4 := same_t t9 hb
    have eL4 := (s48.trans s9) _ _ eL4
    have eU4 := (s48.trans s9) _ _ eU4
    have eV4 := (s48.trans s9) _ _ eV4
    have eW4 := (s48.trans s9) _ _ eW4
    clear t4 s5 s6 s56 s7 s8 s48 s9 eM eJ8 eC8 eR8 eJ eC eR nJ nC nR nM
    have t4 := t9
    clear t9
    -- 2
    refine ⟨_, rfl, _, rfl, a, b, xs, zs, rfl, ha4, hb4, hl, hlz, by rw [onceU.length_eq]; exact hu, fun J ys H5 py sy s5 nJ eJ => ?_⟩
    have ey : us = ys := sorted_one (pu.trans (onceU.symm.trans py.symm)) (sorted_pair su) (sorted_pair sy)
    subst ey
    refine ⟨_, rfl, _, rfl, a, b, xs, zs, rfl, same_t s5 ha4, same_t s5 hb4, hl, fun C H6 s6 nC eC => ?_⟩
    have s56 := s5.trans s6
    refine ⟨_, rfl, _, rfl, a, b, xs, zs, rfl, same_t s56 ha4, same_t s56 hb4, hl, fun R H7 s7 nR eR => ?_⟩
    refine ⟨by show 3 ≤ sizeLine; decide, fun M nM => ?_⟩
    have s8 := same_new (o := .lst [.ref J, .ref C, .ref R]) nM
    have s48 := s56.trans (s7.trans s8)
    have eM : (upd H7 M (.lst [.ref J, .ref C, .ref R])) M = some (.lst [.ref J, .ref C, .ref R]) := upd_same
    have eJ8 := (s6.trans (s7.trans s8)) _ _ eJ
    have eC8 := (s7.trans s8) _ _ eC
    have eR8 := s8 _ _ eR
    generalize upd H7 M (.lst [.ref J, .ref C, .ref R]) = H8 at s48 eM eJ8 eC8 eR8 ⊢
    refine ⟨_, rfl, .ref M, .ref L, .list [PyData.tuple (us.map .str), .tuple ((xs.filter fun x => decide (x ∈ zs)).map .str), .tuple ((xs.filter fun x => !decide (x ∈ zs)).map .str)], rfl,
      Da.newL eM (.cons (Da.newT eJ8 (DaAll.strs _)) (.cons (Da.newT eC8 (DaAll.strs _)) (.cons (Da.newT eR8 (DaAll.strs _)) .nil))),
      Da.newL (s48 _ _ eL4) (.cons (Da.newT (s48 _ _ eU4) (DaAll.strs _)) (.cons (Da.newT (s48 _ _ eV4) (DaAll.strs _)) (.cons (Da.newT (s48 _ _ eW4) (DaAll.strs _)) .nil))), ⟨by show 3 ≤ 60; decide, lvD⟩, fun H9 s9 => ⟨_, rfl, iteF ?_⟩⟩
    have t9 := t4.trans (s48.trans s9)
    have ha4 := same_t t9 ha
    have hb4 := same_t t9 hb
    have eL4 := (s48.trans s9) _ _ eL4
    have eU4 := (s48.trans s9) _ _ eU4
    have eV4 := (s48.trans s9) _ _ eV4
    have eW4 := (s48.trans s9) _ _ eW4
    clear t4 s5 s6 s56 s7 s8 s48 s9 eM eJ8 eC8 eR8 eJ eC eR nJ nC nR nM
    have t4 := t9
    clear t9
    -- what is due
    have she : SeqAt.shaped (.tuple ([] : List PyData)) = true := by decide +kernel
    refine ⟨_, rfl, _, rfl, a, b, xs, zs, rfl, ha4, hb4, hl, fun r1 H5 s5 n1 e1 => ?_⟩
    refine ⟨Nat.zero_le _, fun u1 nu1 => ?_⟩
    refine ⟨.tuple ((xs.filter fun x => decide (x ∈ zs)).map .str), .tuple [], (Da.newT (K := K) (kp e1 nu1) (DaAll.strs _)).dp, (Da.newT (K := K) upd_same .nil).dp, lvV.shaped (by decide), she, ?_⟩
    rw [eqTE]
    have t5 := t4.trans (s5.trans (same_new (o := .tup []) nu1))
    generalize upd H5 u1 (.tup []) = H6 at t5 ⊢
    obtain ⟨b1, hb1, j1⟩ : ∃ b1, b1 = decide (xs.filter (fun x => decide (x ∈ zs)) = []) ∧ (b1 = true ↔ ∀ x ∈ xs, x ∉ zs) := ⟨_, rfl, by rw [decide_eq_true_eq, fil_in]⟩
    rw [← hb1]
    refine ⟨_, rfl, _, rfl, a, b, xs, zs, rfl, same_t t5 ha, same_t t5 hb, hl, hlz, nx, nz, fun b2 H7 j2 s7 => ?_⟩
    have t7 := t5.trans s7
    refine ⟨_, rfl, _, rfl, a, b, xs, zs, rfl, same_t t7 ha, same_t t7 hb, hl, fun r2 H8 s8 n2 e2 => ?_⟩
    refine ⟨Nat.zero_le _, fun u2 nu2 => ?_⟩
    refine ⟨.tuple ((xs.filter fun x => !decide (x ∈ zs)).map .str), .tuple [], (Da.newT (K := K) (kp e2 nu2) (DaAll.strs _)).dp, (Da.newT (K := K) upd_same .nil).dp, lvW.shaped (by decide), she, ?_⟩
    rw [eqTE]
    have t9 := t7.trans (s8.trans (same_new (o := .tup []) nu2))
    generalize upd H8 u2 (.tup []) = H9 at t9 ⊢
    obtain ⟨b3, hb3, j3⟩ : ∃ b3, b3 = decide (xs.filter (fun x => !decide (x ∈ zs)) = []) ∧ (b3 = true ↔ ∀ x ∈ xs, x ∈ zs) := ⟨_, rfl, by rw [decide_eq_true_eq, fil_out]⟩
    rw [← hb3]
    refine ⟨by show 3 ≤ sizeLine; decide, fun N nN => ?_⟩
    have eN : (upd H9 N (.lst [.bl b1, .bl b2, .bl b3])) N = some (.lst [.bl b1, .bl b2, .bl b3]) := upd_same
    have t10 := t9.trans (same_new (o := .lst [.bl b1, .bl b2, .bl b3]) nN)
    generalize upd H9 N (.lst [.bl b1, .bl b2, .bl b3]) = H10 at t10 eN ⊢
    clear t4 t5 t7 t9 s5 s7 s8 n1 e1 nu1 n2 e2 nu2 nN ha4 hb4 eL4 eU4 eV4 eW4
    have t4 := t10
    clear t10
    -- bools 1
    refine ⟨_, rfl, _, rfl, a, b, xs, zs, rfl, same_t t4 ha, .inr (same_t t4 hb), hl, fun c1 H5 i1 s5 => ?_⟩
    have t5 := t4.trans s5
    refine ⟨_, rfl, _, rfl, a, b, xs, zs, rfl, same_t t5 ha, same_t t5 hb, hl, hlz, fun c2 H6 i2 s6 => ?_⟩
    have t6 := t5.trans s6
    refine ⟨_, rfl, _, rfl, a, b, xs, zs, rfl, same_t t6 ha, .inr (same_t t6 hb), hl, fun c3 H7 i3 s7 => ?_⟩
    have q1 : c1 = b1 := Bool.eq_iff_iff.mpr (i1.trans j1.symm)
    have q2 : c2 = b2 := Bool.eq_iff_iff.mpr (i2.trans j2.symm)
    have q3 : c3 = b3 := Bool.eq_iff_iff.mpr (i3.trans j3.symm)
    rw [q1, q2, q3]
    refine ⟨by show 3 ≤ sizeLine; decide, fun M nM => ?_⟩
    have s8 := same_new (o := .lst [.bl b1, .bl b2, .bl b3]) nM
    have s48 := s5.trans (s6.trans (s7.trans s8))
    have eM : (upd H7 M (.lst [.bl b1, .bl b2, .bl b3])) M = some (.lst [.bl b1, .bl b2, .bl b3]) := upd_same
    generalize upd H7 M (.lst [.bl b1, .bl b2, .bl b3]) = H8 at s48 eM ⊢
    refine ⟨_, rfl, .ref M, .ref N, .list [.bool b1, .bool b2, .bool b3], rfl, Da.newL eM (.cons (.bl _) (.cons (.bl _) (.cons (.bl _) .nil))), Da.newL (s48 _ _ eN) (.cons (.bl _) (.cons (.bl _) (.cons (.bl _) .nil))), ⟨by show 3 ≤ 60; decide, fun x hx => ?_⟩, fun H9 s9 => ⟨_, rfl, iteF ?_⟩⟩
    · rcases List.mem_cons.mp hx with e | m
      · rw [e]; trivial
      · rcases List.mem_cons.mp m with e | m
        · rw [e]; trivial
        · rw [List.mem_singleton.mp m]; trivial
    have eN := (s48.trans s9) _ _ eN
    have t9 := t4.trans (s48.trans s9)
    clear t4 t5 t6 s5 s6 s7 s8 s48 s9 eM nM i1 i2 i3 q1 q2 q3
    have t4 := t9
    clear t9
    -- bools 2
    refine ⟨_, rfl, _, rfl, a, b, xs, zs, rfl, same_t t4 ha, .inr (same_t t4 hb), hl, fun c1 H5 i1 s5 => ?_⟩
    have t5 := t4.trans s5
    refine ⟨_, rfl, _, rfl, a, b, xs, zs, rfl, same_t t5 ha, same_t t5 hb, hl, hlz, fun c2 H6 i2 s6 => ?_⟩
    have t6 := t5.trans s6
    refine ⟨_, rfl, _, rfl, a, b, xs, zs, rfl, same_t t6 ha, .inr (same_t t6 hb), hl, fun c3 H7 i3 s7 => ?_⟩
    have q1 : c1 = b1 := Bool.eq_iff_iff.mpr (i1.trans j1.symm)
    have q2 : c2 = b2 := Bool.eq_iff_iff.mpr (i2.trans j2.symm)
    have q3 : c3 = b3 := Bool.eq_iff_iff.mpr (i3.trans j3.symm)
    rw [q1, q2, q3]
    refine ⟨by show 3 ≤ sizeLine; decide, fun M nM => ?_⟩
    have s8 := same_new (o := .lst [.bl b1, .bl b2, .bl b3]) nM
    have s48 := s5.trans (s6.trans (s7.trans s8))
    have eM : (upd H7 M (.lst [.bl b1, .bl b2, .bl b3])) M = some (.lst [.bl b1, .bl b2, .bl b3]) := upd_same
    generalize upd H7 M (.lst [.bl b1, .bl b2, .bl b3]) = H8 at s48 eM ⊢
    refine ⟨_, rfl, .ref M, .ref N, .list [.bool b1, .bool b2, .bool b3], rfl, Da.newL eM (.cons (.bl _) (.cons (.bl _) (.cons (.bl _) .nil))), Da.newL (s48 _ _ eN) (.cons (.bl _) (.cons (.bl _) (.cons (.bl _) .nil))), ⟨by show 3 ≤ 60; decide, fun x hx => ?_⟩, fun H9 s9 => ?_⟩
    · rcases List.mem_cons.mp hx with e | m
      · rw [e]; trivial
      · rcases List.mem_cons.mp m with e | m
        · rw [e]; trivial
        · rw [List.mem_singleton.mp m]; trivial
    exact q _ (t4.trans (s48.trans s9))
end
end Th
namespace Th
open PySem PySem.Spec PyProof.Rows L2
abbrev s_l_is_name : Stmt := topS 31
theorem sc_l_is_name : FnScope ["_law_x", "_law_sign"] ["_law_x"] (defScope s_l_is_name) := ⟨rfl, rfl, rfl, by decide +kernel, rfl, by decide +kernel, by decide +kernel⟩

section
variable {P : Program} {w : World} {K : PySem.W.Frag} {mg : Str → Option Value} {base : Heap}
theorem has_l_is_name (n : Nat) (Z : Zs mg) (A : At K mg "_law_is_name" s_l_is_name ["_law_x"]) (h_l_letters : Has P w K mg base "_law_letters" s_l_letters 1 [] (spLetters)) : Has P w K mg base "_law_is_name" s_l_is_name 2 ["_law_x"] (spJ K n nmD) := by
  obtain ⟨f, fd, F, mg1, bd⟩ := A
  obtain ⟨f_l_letters, fd_l_letters, G_l_letters, m_l_letters, k_l_letters, b_l_letters, F_l_letters⟩ := h_l_letters
  refine ⟨f, fd, ?_, mg1, F.kp, bd, F⟩
  refine F.ok sc_l_is_name (fun vs H Q E h => ?_) (fun cdv A outer s H vs Q E hr h => ?_)
  · obtain ⟨v, d, rfl, _⟩ := h
    rfl
  · obtain ⟨v, d, rfl, r, lv, q⟩ := h
    refine ⟨_, (pss_one (ps_ret (pe_and (pe_callB call_isi (by rfl) Z.isinstance_ (by decide +kernel) (pa_cons (pv 0) (pa_cons (pe_bltn (v := .ty "str") (by rfl) Z.str_ (by decide +kernel) rfl) pa_nil))) (pe_and (pe_cmpR op_in_seq (pe_callB call_len_str (by rfl) Z.len_ (by decide +kernel) (pa_cons (pv 0) pa_nil)) (pe_tup (pa_cons pe_int (pa_cons pe_int (pa_cons pe_int (pa_cons pe_int (pa_cons pe_int (pa_cons pe_int pa_nil))))))) (by rfl)) (pe_one (pe_callB (cr_all rfl) (by rfl) Z.all_ (by decide +kernel) (pa_cons (pe_lc (own := [("_law_sign", 1)]) (g := gName 1) (by rfl) sc_l_is_name.nd (pi_str (pv 0)) (blkOk_by (own := [("_law_sign", 1)]) (N := ["_law_x", "_law_sign"]) (sc := defScope s_l_is_name) (by decide +kernel)) (fun _ _ _ _ _ => pg_name (i := 1) sc_l_is_name.nd rfl (Or.inl rfl)) (fun _ _ _ _ _ => pts_nil) (fun _ _ _ _ _ => (pe_cmpR op_in_sign (pv 1) (pe_call0 G_l_letters (hr.mono (by decide)) (by rfl) m_l_letters k_l_letters b_l_letters .nil pass0) (by rfl)))) pa_nil))))))), ?_⟩
    refine ⟨_, rfl, v, _, _, _, _, rfl, .ty "str", r.ty, kit_ty (kit_str d r.nodict), _, rfl, ?_⟩
    cases d with
    | str x =>
      have hv : v = .str x := by
        cases r
        rfl
      subst hv
      have hx : x.length ≤ 100000 := by
        cases n <;> exact lv.1
      refine iteT ?_
      refine ⟨_, rfl, _, rfl, sline hx, (by show 6 ≤ sizeLine; decide), fun u nu => ?_⟩
      refine ⟨u, _, rfl, .inr (.inl (.inl upd_same)), rfl, rfl, _, rfl, ?_⟩
      have ein : inV (.int (x.length : Int)) [V.int 1, .int 2, .int 3, .int 4, .int 5, .int 6] = (decide (1 ≤ x.length) && decide (x.length ≤ 6)) := by
        unfold inV
        rw [Bool.eq_iff_iff]
        simp only [List.any_cons, List.any_nil, Bool.or_false, Bool.or_eq_true, Bool.and_eq_true, decide_eq_true_eq, eqV, beq_iff_eq]
        omega
      have s1 := same_new (o := .tup [V.int 1, .int 2, .int 3, .int 4, .int 5, .int 6]) nu
      rw [ein, if_neg Bool.false_ne_true]
      refine ite2 (fun h1 => ?_) (fun h1 => ?_)
      · refine ⟨_, rfl, x, rfl, fun L nL => ?_⟩
        have s2' := s1.trans (same_new (o := .lst []) nL)
        refine lc_it (walk_str (z := x)) (fun i H2 => Same H H2 ∧ H2 L = some (.lst (((cs x).take i).map fun c => V.bl (decide (c ∈ cs abc))))) ⟨s2', upd_same⟩ (fun _ _ _ _ => trivial) ?_ ?_
        · rintro i y H2 H3 hi ⟨s2, e2⟩ ⟨rfl, c, hc, rfl⟩
          have hc' : (cs x)[i]? = some c := by
            unfold cs
            rw [Array.getElem?_toList]
            exact hc
          have hl := lt_of_get hc'
          rw [← cs_len] at hl
          refine ⟨rfl, _, rfl, rfl, c, abc, rfl, rfl, _, e2, slineL ?_, ?_⟩
          · rw [List.length_map, List.length_take]
            omega
          · refine ⟨same_mut s2 (s1.free nL), ?_⟩
            rw [upd_same, take_succ_map hc']
            rfl
        · rintro H2 ⟨s2, e2⟩
          have e3 : (cs x).take x.cps.size = cs x := List.take_of_length_le (by rw [← cs_len]; exact Nat.le_refl _)
          rw [e3] at e2
          refine ⟨L, (cs x).map fun c => decide (c ∈ cs abc), rfl, .inl (.inl (by rw [e2, List.map_map]; rfl)), ?_⟩
          have e4 : ((cs x).map fun c => decide (c ∈ cs abc)).all id = isNm x := by
            unfold isNm
            rw [h1, List.all_map]
            rfl
          rw [e4]
          exact q H2 s2
      · have e4 : isNm x = false := by
          unfold isNm
          cases z : (decide (1 ≤ x.length) && decide (x.length ≤ 6)) with
          | true => exact absurd z h1
          | false => rfl
        have q2 := q _ s1
        show Q (.bl false) _
        rw [show nmD (.str x) = false from e4] at q2
        exact q2
    | _ => exact iteF (q H (Same.refl H))
end
end Th
namespace Th
open PySem PySem.Spec PyProof.Rows L2
abbrev s_p_copied : Stmt := topS 1
theorem sc_p_copied : FnScope ["value", "item"] ["value"] (defScope s_p_copied) := ⟨rfl, rfl, rfl, by decide +kernel, rfl, by decide +kernel, by decide +kernel⟩

/-- a copy of data: what is hidden stays out of it -/
def spCopy (K : PySem.W.Frag) (n : Nat) : Sp := fun vs H Q _ => ∃ (v : V) (d : PyData) (S : Addr → Prop), vs = [v] ∧ (∀ b, S b → H b ≠ none) ∧ Da K (hidS S H) v d ∧ LvN n d ∧ ∀ v' H', Same H H' → Da K (hidS S H') v' d → Q v' H'
section
variable {P : Program} {w : World} {K : PySem.W.Frag} {mg : Str → Option Value} {base : Heap}
theorem copied_step (Z : Zs mg) {f : Addr} {fd : FuncData} (F : Fun K "copied" "copied" s_p_copied f fd) (m_p_copied : mg "copied" = some (.ref f)) (b_p_copied : Binds K fd ["value"] []) (k : Nat)
    (G_p_copied : FnOk P w K mg base CX0 k f fd ["value"] (spCopy K k)) : FnOk P w K mg base CX0 (k + 1) f fd ["value"] (spCopy K (k + 1)) := by
  have k_p_copied := F.kp
  refine F.ok sc_p_copied (fun vs H Q E h => ?_) (fun cdv A outer s H vs Q E hr h => ?_)
  · obtain ⟨v, d, S, rfl, _⟩ := h
    rfl
  · obtain ⟨v, d, S, rfl, hS, rv, lv, q⟩ := h
    have nd := rv.nodict
    have rH := rv.to hidS_same
    refine ⟨_, (pss_cons (ps_if (pt_val (pe_callB call_isi (by rfl) Z.isinstance_ (by decide +kernel) (pa_cons (pv 0) (pa_cons (pe_bltn (v := .ty "list") (by rfl) Z.list_ (by decide +kernel) rfl) pa_nil)))) (pss_one (ps_ret (pe_lc (own := [("item", 1)]) (g := gName 1) (by rfl) sc_p_copied.nd (pi_list (pv 0)) (blkOk_by (own := [("item", 1)]) (N := ["value", "item"]) (sc := defScope s_p_copied) (by decide +kernel)) (fun _ _ _ _ _ => pg_name (i := 1) sc_p_copied.nd rfl (Or.inl rfl)) (fun _ _ _ _ _ => pts_nil) (fun _ _ _ _ _ => (pe_call G_p_copied (hr.mono (Nat.le_refl _)) (by rfl) m_p_copied k_p_copied b_p_copied .nil pass0 (pa_cons (pv 1) pa_nil)))))) pss_nil) (pss_cons (ps_if (pt_val (pe_callB call_isi (by rfl) Z.isinstance_ (by decide +kernel) (pa_cons (pv 0) (pa_cons (pe_bltn (v := .ty "tuple") (by rfl) Z.tuple_ (by decide +kernel) rfl) pa_nil)))) (pss_one (ps_ret (pe_callTy call_tuple_of (by rfl) Z.tuple_ (by decide +kernel) (pa_cons (pe_lc (own := [("item", 1)]) (g := gName 1) (by rfl) sc_p_copied.nd (pi_tup (pv 0)) (blkOk_by (own := [("item", 1)]) (N := ["value", "item"]) (sc := defScope s_p_copied) (by decide +kernel)) (fun _ _ _ _ _ => pg_name (i := 1) sc_p_copied.nd rfl (Or.inl rfl)) (fun _ _ _ _ _ => pts_nil) (fun _ _ _ _ _ => (pe_call G_p_copied (hr.mono (Nat.le_refl _)) (by rfl) m_p_copied k_p_copied b_p_copied .nil pass0 (pa_cons (pv 1) pa_nil)))) pa_nil)))) pss_nil) (pss_one (ps_ret (pv 0))))), ?_⟩
    have lv : Lv k d := lv
    -- a comprehension over the items copies each
    have walk : ∀ (L : Addr) (xs : List V) (ds : List PyData), H L = none → DaAll K (hidS S H) xs ds → (∀ x ∈ ds, LvN k x) → xs.length ≤ 60 → ∀ (i : Nat) (y : V) (H2 : Hp), xs[i]? = some y →
        (∃ ys, Same H H2 ∧ H2 L = some (.lst ys) ∧ ys.length = i ∧ DaAll K (hidS (fun b => S b ∨ b = L) H2) ys (ds.take i)) →
        spCopy K k ([y] ++ []) H2 (fun v' H3 => ∃ zs, H3 L = some (.lst zs) ∧ zs.length < sizeLine ∧ ∃ ys, Same H (upd H3 L (.lst (zs ++ [v']))) ∧ upd H3 L (.lst (zs ++ [v'])) L = some (.lst ys) ∧ ys.length = i + 1 ∧ DaAll K (hidS (fun b => S b ∨ b = L) (upd H3 L (.lst (zs ++ [v'])))) ys (ds.take (i + 1))) E0 := by
      rintro L xs ds nL rx lvx lx i y H2 hi ⟨ys, s2, e2, hy, ry⟩
      obtain ⟨e, he, re⟩ := rx.at hi
      refine ⟨y, e, fun b => S b ∨ b = L, rfl, fun b hb => ?_, re.to (hidS_more s2 nL), lvx e (List.mem_of_getElem? he), fun v' H3 s3 rv' => ?_⟩
      · rcases hb with hb | rfl
        · cases e1 : H b with
          | none => exact absurd e1 (hS b hb)
          | some o => rw [s2 b o e1]; exact fun z => nomatch z
        · rw [e2]; exact fun z => nomatch z
      · refine ⟨ys, s3 _ _ e2, slineL (by have := lt_of_get hi; omega), ys ++ [v'], same_mut (s2.trans s3) nL, upd_same, by rw [List.length_append, hy]; rfl, ?_⟩
        rw [hidS_upd, List.take_add_one, he]
        exact (ry.to (hidS_mono s3)).app (.cons rv' .nil)
    by_cases hl : tyD d = "list"
    · cases d with
      | none => exact absurd (show ("NoneType" : String) = "list" from hl) (by decide)
      | bool b => exact absurd (show ("bool" : String) = "list" from hl) (by decide)
      | int b => exact absurd (show ("int" : String) = "list" from hl) (by decide)
      | str b => exact absurd (show ("str" : String) = "list" from hl) (by decide)
      | tuple ds => exact absurd (show ("tuple" : String) = "list" from hl) (by decide)
      | dict kvs => exact absurd rfl nd
      | list ds =>
        obtain ⟨lvl, lvx⟩ := lvn_list lv
        cases rv with
        | @lst p xs _ hp ht rx =>
        have hp' := hidS_same.seq hp
        have lx : xs.length ≤ 60 := by rw [rx.len]; exact lvl
        refine ⟨_, rfl, _, _, _, _, _, rfl, .ty "list", rH.ty, kit_ty (kit_list _ nd), _, rfl, iteT ?_⟩
        refine ⟨_, rfl, p, rfl, ⟨_, hp'⟩, fun L nL => ?_⟩
        have nS : ¬ S L := fun z => hS L z nL
        refine lc_list (K := K) (a := p) (xs := xs) (fun i H2 => ∃ ys, Same H H2 ∧ H2 L = some (.lst ys) ∧ ys.length = i ∧ DaAll K (hidS (fun b => S b ∨ b = L) H2) ys (ds.take i)) ⟨[], same_new nL, upd_same, rfl, .nil⟩ (fun i H2 _ ⟨_, s2, _⟩ => s2.seq hp') ?_ ?_
        · intro i y H2 hi w2
          have step := walk L xs ds nL rx lvx lx i y H2 hi w2
          refine ⟨rfl, _, rfl, ?_⟩
          exact step
        · rintro H2 ⟨ys, s2, e2, hy, ry⟩
          rw [rx.len, List.take_length] at ry
          refine q _ _ s2 (Da.newL (by rw [hidS_out nS]; exact e2) (ry.to hidS_less))
    refine ⟨_, rfl, _, _, _, _, _, rfl, .ty "list", rH.ty, kit_ty (kit_list _ nd), _, rfl, ?_⟩
    rw [decide_eq_false hl]
    refine iteF ?_
    by_cases ht : tyD d = "tuple"
    · cases d with
      | none => exact absurd (show ("NoneType" : String) = "tuple" from ht) (by decide)
      | bool b => exact absurd (show ("bool" : String) = "tuple" from ht) (by decide)
      | int b => exact absurd (show ("int" : String) = "tuple" from ht) (by decide)
      | str b => exact absurd (show ("str" : String) = "tuple" from ht) (by decide)
      | list ds => exact absurd (show ("list" : String) = "tuple" from ht) (by decide)
      | dict kvs => exact absurd rfl nd
      | tuple ds =>
        obtain ⟨lvl, lvx⟩ := lvn_tuple lv
        cases rv with
        | @tup p xs _ hp hty rx =>
        have hp' := same_t hidS_same hp
        have lx : xs.length ≤ 60 := by rw [rx.len]; exact lvl
        refine ⟨_, rfl, _, _, _, _, _, rfl, .ty "tuple", rH.ty, kit_ty (kit_tuple _ nd), _, rfl, iteT ?_⟩
        refine ⟨_, rfl, p, rfl, ⟨_, hp'⟩, fun L nL => ?_⟩
        refine lc_tup (K := K) (a := p) (xs := xs) (fun i H2 => ∃ ys, Same H H2 ∧ H2 L = some (.lst ys) ∧ ys.length = i ∧ DaAll K (hidS (fun b => S b ∨ b = L) H2) ys (ds.take i)) ⟨[], same_new nL, upd_same, rfl, .nil⟩ (fun i H2 _ ⟨_, s2, _⟩ => same_t s2 hp') ?_ ?_
        · intro i y H2 hi w2
          have step := walk L xs ds nL rx lvx lx i y H2 hi w2
          refine ⟨rfl, _, rfl, ?_⟩
          exact step
        · rintro H2 ⟨ys, s2, e2, hy, ry⟩
          rw [rx.len, List.take_length] at ry
          refine ⟨L, ys, rfl, .inl ⟨.inl (.inl e2), fun r nr => ?_⟩⟩
          have s3 := same_new (o := .tup ys) nr
          have nSr : ¬ S r := fun z => by
            have h1 := hS r z
            cases e1 : H r with
            | none => exact h1 e1
            | some o => rw [s2 r o e1] at nr; cases nr
          refine q _ _ (s2.trans s3) (Da.newT (by rw [hidS_out nSr]; exact upd_same) ((ry.to hidS_less).to (hidS_mono s3)))
    refine ⟨_, rfl, _, _, _, _, _, rfl, .ty "tuple", rH.ty, kit_ty (kit_tuple _ nd), _, rfl, ?_⟩
    rw [decide_eq_false ht]
    refine iteF ?_
    exact ⟨_, rfl, q _ _ (Same.refl _) rv⟩
theorem has_p_copied (Z : Zs mg) (A : At K mg "copied" s_p_copied ["value"]) : Has P w K mg base "copied" s_p_copied 6 ["value"] (spCopy K 6) := by
  obtain ⟨f, fd, F, mg1, bd⟩ := A
  refine ⟨f, fd, ?_, mg1, F.kp, bd, F⟩
  have G0 : FnOk P w K mg base CX0 0 f fd ["value"] (spCopy K 0) := ⟨fun vs H Q E h => by obtain ⟨v, d, S, rfl, _⟩ := h; rfl, fun A outer s H args us vs Q E hr he hb hv hs => by obtain ⟨v, d, S, rfl, _, _, z, _⟩ := hs; exact z.elim⟩
  exact copied_step Z F mg1 bd 5 (copied_step Z F mg1 bd 4 (copied_step Z F mg1 bd 3 (copied_step Z F mg1 bd 2 (copied_step Z F mg1 bd 1 (copied_step Z F mg1 bd 0 G0)))))
end
end Th
namespace Th
open PySem PySem.Spec PyProof.Rows L2
abbrev s_c_InvalidLot_init : Stmt := inClass (topS 4) 0
theorem sc_c_InvalidLot_init : FnScope ["self", "at"] ["self", "at"] (defScope s_c_InvalidLot_init) := ⟨rfl, rfl, rfl, by decide +kernel, rfl, by decide +kernel, by decide +kernel⟩

section
variable {P : Program} {w : World} {K : PySem.W.Frag} {mg : Str → Option Value} {base : Heap}
theorem has_c_InvalidLot_init {fI : Addr} {fd : FuncData} (Z : Zs mg) (F : Fun K "__init__" "InvalidLot.__init__" s_c_InvalidLot_init fI fd) (h_p_copied : Has P w K mg base "copied" s_p_copied 6 ["value"] (spCopy K 6)) : FnOk P w K mg base CX0 7 fI fd ["self", "at"] (spInit1 K "InvalidLot" "at" 6) := by
  obtain ⟨f_p_copied, fd_p_copied, G_p_copied, m_p_copied, k_p_copied, b_p_copied, F_p_copied⟩ := h_p_copied
  refine F.ok sc_c_InvalidLot_init (fun vs H Q E h => ?_) (fun cdv A outer s H vs Q E hr h => ?_)
  · obtain ⟨a, C, v, d, rfl, _⟩ := h
    rfl
  · obtain ⟨a, C, v, d, rfl, G, n1, n2, ea, rv, lv, q⟩ := h
    refine ⟨_, (pss_cons (ps_put (pv 0) (pe_call G_p_copied (hr.mono (by decide)) (by rfl) m_p_copied k_p_copied b_p_copied .nil pass0 (pa_cons (pv 1) pa_nil))) (pss_one (ps_put (pv 0) pe_str))), ?_⟩
    refine ⟨_, rfl, v, d, fun b => b = a, rfl, fun b hb => (by rw [hb, ea]; exact fun z => nomatch z), rv.kd fun b o e p => ?_, lv, fun v' H1 s1 rv' => ?_⟩
    · rw [hidS_out fun z => ?_]
      · exact e
      · rw [z, ea] at e
        exact p.1 _ (Option.some.inj e).symm
    · have ea1 := s1 _ _ ea
      refine ⟨_, rfl, a, C, rfl, G, n1, .inl ⟨ea1, fun dx nd ne => ?_⟩⟩
      refine ⟨_, rfl, a, C, rfl, G, n2, .inr ⟨dx, [("at", v')], upd_same, ?_, (by show 1 ≤ 900; decide), ?_⟩⟩
      · rw [upd_ne ne]; exact upd_same
      · exact q H1 v' dx s1 (rv'.to hidS_same) nd ne
end
end Th
namespace Th
open PySem PySem.Spec PyProof.Rows L2
abbrev s_p_is_name : Stmt := topS 9
theorem sc_p_is_name : FnScope ["value", "sign"] ["value"] (defScope s_p_is_name) := ⟨rfl, rfl, rfl, by decide +kernel, rfl, by decide +kernel, by decide +kernel⟩

section
variable {P : Program} {w : World} {K : PySem.W.Frag} {mg : Str → Option Value} {base : Heap}
theorem has_p_is_name (n : Nat) (Z : Zs mg) (gL : ∃ t, mg "_LETTERS" = some (.str abc t)) (gM : ∃ t, mg "_MOST_LETTERS" = some (.int 6 t)) (A : At K mg "is_name" s_p_is_name ["value"]) : Has P w K mg base "is_name" s_p_is_name 1 ["value"] (spJ K n nmD) := by
  obtain ⟨f, fd, F, mg1, bd⟩ := A
  obtain ⟨tL, g_LETTERS⟩ := gL
  obtain ⟨tM, g_MOST_LETTERS⟩ := gM
  refine ⟨f, fd, ?_, mg1, F.kp, bd, F⟩
  refine F.ok sc_p_is_name (fun vs H Q E h => ?_) (fun cdv A outer s H vs Q E hr h => ?_)
  · obtain ⟨v, d, rfl, _⟩ := h
    rfl
  · obtain ⟨v, d, rfl, r, lv, q⟩ := h
    refine ⟨_, (pss_one (ps_ret (pe_and (pe_callB call_isi (by rfl) Z.isinstance_ (by decide +kernel) (pa_cons (pv 0) (pa_cons (pe_bltn (v := .ty "str") (by rfl) Z.str_ (by decide +kernel) rfl) pa_nil))) (pe_and (pe_chain op_le op_le pe_int (pe_callB call_len_str (by rfl) Z.len_ (by decide +kernel) (pa_cons (pv 0) pa_nil)) (pe_glob (v := .int 6) (by rfl) g_MOST_LETTERS ⟨_, rfl⟩)) (pe_one (pe_callB (cr_all rfl) (by rfl) Z.all_ (by decide +kernel) (pa_cons (pe_lc (own := [("sign", 1)]) (g := gName 1) (by rfl) sc_p_is_name.nd (pi_str (pv 0)) (blkOk_by (own := [("sign", 1)]) (N := ["value", "sign"]) (sc := defScope s_p_is_name) (by decide +kernel)) (fun _ _ _ _ _ => pg_name (i := 1) sc_p_is_name.nd rfl (Or.inl rfl)) (fun _ _ _ _ _ => pts_nil) (fun _ _ _ _ _ => (pe_cmpR op_in_sign (pv 1) (pe_glob (v := .str abc) (by rfl) g_LETTERS ⟨_, rfl⟩) (by rfl)))) pa_nil))))))), ?_⟩
    refine ⟨_, rfl, v, _, _, _, _, rfl, .ty "str", r.ty, kit_ty (kit_str d r.nodict), _, rfl, ?_⟩
    cases d with
    | str x =>
      have hv : v = .str x := by
        cases r
        rfl
      subst hv
      have hx : x.length ≤ 100000 := by
        cases n <;> exact lv.1
      refine iteT ?_
      refine ⟨_, rfl, _, rfl, sline hx, _, _, rfl, rfl, _, rfl, ?_⟩
      have fin : ∀ b : Bool, b = isNm x → Q (.bl b) H := fun b e => by
        rw [e]
        exact q H (Same.refl H)
      refine ite2 (fun h1 => ?_) (fun h1 => ⟨_, rfl, iteF (fin _ ?_)⟩)
      · refine ⟨_, _, rfl, rfl, _, rfl, ?_⟩
        refine ite2 (fun h2 => ?_) (fun h2 => fin _ ?_)
        · refine ⟨_, rfl, x, rfl, fun L nL => ?_⟩
          refine lc_it (walk_str (z := x)) (fun i H2 => Same H H2 ∧ H2 L = some (.lst (((cs x).take i).map fun c => V.bl (decide (c ∈ cs abc))))) ⟨same_new nL, upd_same⟩ (fun _ _ _ _ => trivial) ?_ ?_
          · rintro i y H2 H3 hi ⟨s2, e2⟩ ⟨rfl, c, hc, rfl⟩
            have hc' : (cs x)[i]? = some c := by
              unfold cs
              rw [Array.getElem?_toList]
              exact hc
            have hl := lt_of_get hc'
            rw [← cs_len] at hl
            refine ⟨rfl, _, rfl, c, abc, rfl, rfl, _, e2, slineL ?_, ?_⟩
            · rw [List.length_map, List.length_take]
              omega
            · refine ⟨same_mut s2 nL, ?_⟩
              rw [upd_same, take_succ_map hc']
              rfl
          · rintro H2 ⟨s2, e2⟩
            have e3 : (cs x).take x.cps.size = cs x := List.take_of_length_le (by rw [← cs_len]; exact Nat.le_refl _)
            rw [e3] at e2
            refine ⟨L, (cs x).map fun c => decide (c ∈ cs abc), rfl, .inl (.inl (by rw [e2, List.map_map]; rfl)), ?_⟩
            have e4 : ((cs x).map fun c => decide (c ∈ cs abc)).all id = isNm x := by
              unfold isNm
              have a1 : decide (1 ≤ x.length) = true := decide_eq_true (by have := of_decide_eq_true h1; omega)
              have a2 : decide (x.length ≤ 6) = true := decide_eq_true (by have := of_decide_eq_true h2; omega)
              rw [a1, a2, List.all_map]
              rfl
            rw [e4]
            exact q H2 s2
        · have a2 : ¬ x.length ≤ 6 := fun z => h2 (decide_eq_true (by omega))
          unfold isNm
          rw [decide_eq_false a2, Bool.and_false, Bool.false_and]
      · have a1 : ¬ 1 ≤ x.length := fun z => h1 (decide_eq_true (by omega))
        unfold isNm
        rw [decide_eq_false a1, Bool.false_and, Bool.false_and]
    | _ => exact iteF (q H (Same.refl H))
end
end Th
namespace Th
open PySem PySem.Spec PyProof.Rows L2
abbrev s_p_lot_of : Stmt := topS 11
theorem sc_p_lot_of : FnScope ["names", "at", "name"] ["names"] (defScope s_p_lot_of) := ⟨rfl, rfl, rfl, by decide +kernel, rfl, by decide +kernel, by decide +kernel⟩
/-- the first thing that is no name -/
def badIx : List PyData → Option Nat
  | [] => none
  | d :: r => if nmD d = true then (badIx r).map (· + 1) else some 0
def itemsD : PyData → Option (List PyData)
  | .list ds => some ds
  | .tuple ds => some ds
  | _ => none
/-- where a value is no list of names -/
def badAt (d : PyData) : Option Int := match itemsD d with
  | some [] => some (-1)
  | some ds => (badIx ds).map fun i => (i : Int)
  | none => some (-1)
theorem badIx_at : ∀ {ds : List PyData} {i : Nat} {e : PyData}, (∀ j e', j < i → ds[j]? = some e' → nmD e' = true) → ds[i]? = some e → nmD e = false → badIx ds = some i
  | d :: r, 0, e, _, h, n => by
    cases h
    unfold badIx
    rw [if_neg (by rw [n]; decide)]
  | d :: r, i + 1, e, a, h, n => by
    unfold badIx
    rw [if_pos (a 0 d (by omega) rfl), badIx_at (i := i) (fun j e' hj he => a (j + 1) e' (by omega) (by simpa using he)) (by simpa using h) n]
    rfl
  | [], _, _, _, h, _ => by cases h
theorem nm_list : ∀ {ds : List PyData}, (∀ e ∈ ds, nmD e = true) → ∃ xs : List Str, ds = xs.map .str ∧ ∀ x ∈ xs, isNm x = true
  | [], _ => ⟨[], rfl, fun _ z => nomatch z⟩
  | d :: r, h => by
    obtain ⟨xs, e, n⟩ := nm_list fun x hx => h x (List.mem_cons_of_mem _ hx)
    have hd := h d List.mem_cons_self
    cases d with
    | str x =>
      refine ⟨x :: xs, by rw [e]; rfl, fun y hy => ?_⟩
      rcases List.mem_cons.mp hy with z | z
      · rw [z]; exact hd
      · exact n y z
    | none => cases hd
    | bool b => cases hd
    | int b => cases hd
    | list b => cases hd
    | tuple b => cases hd
    | dict b => cases hd
theorem seqD {K : PySem.W.Frag} {H : Hp} {v : V} {d : PyData} (r : Da K H v d) (h : tyD d = "list" ∨ tyD d = "tuple") : ∃ b vs ds, v = .ref b ∧ (SqL K H b vs ∨ SqT K H b vs) ∧ DaAll K H vs ds ∧ itemsD d = some ds := by
  cases r with
  | non => rcases h with z | z <;> exact absurd z (by simp [tyD])
  | bl b => rcases h with z | z <;> exact absurd z (by simp [tyD])
  | int b => rcases h with z | z <;> exact absurd z (by simp [tyD])
  | str b => rcases h with z | z <;> exact absurd z (by simp [tyD])
  | lst a b c => exact ⟨_, _, _, rfl, .inl a, c, rfl⟩
  | tup a b c => exact ⟨_, _, _, rfl, .inr a, c, rfl⟩
theorem bad_ne {d : PyData} {ds : List PyData} (h : itemsD d = some ds) (n : ds ≠ []) : badAt d = (badIx ds).map fun i => (i : Int) := by
  unfold badAt
  rw [h]
  cases ds with
  | nil => exact absurd rfl n
  | cons e r => rfl
/-- a lot of names, or an error -/
def spLotOf (K : PySem.W.Frag) (mg : Str → Option Value) : Sp := fun vs H Q E => ∃ (v : V) (d : PyData), vs = [v] ∧ Da K H v d ∧ (∀ ds, itemsD d = some ds → ds.length ≤ 100 ∧ ∀ e ∈ ds, Lv 4 e) ∧
  (∀ xs : List Str, itemsD d = some (xs.map .str) → xs ≠ [] → (∀ x ∈ xs, isNm x = true) → (once [] xs).length ≤ 60 ∧ ∀ r (ys : List Str) H', ys.Perm (once [] xs) → sortedS ys = true → Same H H' → H r = none → H' r = some (.tup (ys.map V.str)) → Q (.ref r) H') ∧
  (∀ i : Int, badAt d = some i → ∀ cls dd v' H', Same H H' → IsExc K mg "InvalidLot" [("code", .str "InvalidLot"), ("at", v')] cls dd H' → Da K H' v' (.int i) → E cls dd H')
section
variable {P : Program} {w : World} {K : PySem.W.Frag} {mg : Str → Option Value} {base : Heap}
theorem has_p_lot_of (Z : Zs mg) (A : At K mg "lot_of" s_p_lot_of ["names"]) (h_c_InvalidLot_init : HasE P w K mg base "InvalidLot" "InvalidLot.__init__" s_c_InvalidLot_init ["self", "at"] ["at", "code"] 7 (spInit1 K "InvalidLot" "at" 6)) (h_p_is_name : Has P w K mg base "is_name" s_p_is_name 1 ["value"] (spJ K 5 nmD)) : HasX P w K mg base "lot_of" s_p_lot_of 9 ["names"] (spLotOf K mg) := by
  obtain ⟨f, fd, F, mg1, bd⟩ := A
  obtain ⟨C_c_InvalidLot_init, fI_c_InvalidLot_init, fd_c_InvalidLot_init, E_c_InvalidLot_init, G_c_InvalidLot_init⟩ := h_c_InvalidLot_init
  obtain ⟨f_p_is_name, fd_p_is_name, G_p_is_name, m_p_is_name, k_p_is_name, b_p_is_name, F_p_is_name⟩ := h_p_is_name
  refine ⟨f, fd, ?_, mg1, F.kp, bd, F⟩
  refine F.okX sc_p_lot_of (fun vs H Q E h => ?_) (fun cdv A outer s H vs Q E hr h => ?_)
  · obtain ⟨v, d, rfl, _⟩ := h
    rfl
  · obtain ⟨v, d, rfl, rv, hs, q1, q2⟩ := h
    have nd := rv.nodict
    refine ⟨_, (pss_cons (ps_if (PW.pt (pw_or (pt_not (pt_val (pe_callB (show CallR _ (.builtin "isinstance") (rIsiT K) from call_isiT) (by rfl) Z.isinstance_ (by decide +kernel) (pa_cons (pv 0) (pa_cons (pe_tup (pa_cons (pe_bltn (v := .ty "list") (by rfl) Z.list_ (by decide +kernel) rfl) (pa_cons (pe_bltn (v := .ty "tuple") (by rfl) Z.tuple_ (by decide +kernel) rfl) pa_nil))) pa_nil))))) (pw_or1 (pt_cmpR op_eq (pe_callB call_len_seq (by rfl) Z.len_ (by decide +kernel) (pa_cons (pv 0) pa_nil)) pe_int (nomark _))))) (pss_one (ps_raise rfl (takes_of rfl rfl rfl rfl) (pmk_new E_c_InvalidLot_init.g E_c_InvalidLot_init.ini E_c_InvalidLot_init.tI G_c_InvalidLot_init (hr.mono (by decide)) E_c_InvalidLot_init.b (by rfl) E_c_InvalidLot_init.m (pa_cons (pe_un un_neg pe_int) pa_nil)))) pss_nil) (pss_cons (ps_for (passes_of rfl) rfl (pi_enumLT (by rfl) Z.enumerate_ (pa_cons (pv 0) pa_nil)) (pg_tup (by rfl) (pgs_cons (pg_name (i := 1) sc_p_lot_of.nd rfl (Or.inl rfl)) (pgs_cons (pg_name (i := 2) sc_p_lot_of.nd rfl (Or.inl rfl)) pgs_nil))) (pss_one (ps_if (pt_not (pt_val (pe_call G_p_is_name (hr.mono (by decide)) (by rfl) m_p_is_name k_p_is_name b_p_is_name .nil pass0 (pa_cons (pv 2) pa_nil)))) (pss_one (ps_raise rfl (takes_of rfl rfl rfl rfl) (pmk_new E_c_InvalidLot_init.g E_c_InvalidLot_init.ini E_c_InvalidLot_init.tI G_c_InvalidLot_init (hr.mono (by decide)) E_c_InvalidLot_init.b (by rfl) E_c_InvalidLot_init.m (pa_cons (pv 1) pa_nil)))) pss_nil))) (pss_one (ps_ret (pe_callTy call_tuple_of (by rfl) Z.tuple_ (by decide +kernel) (pa_cons (pe_callB (cr_sortedSetS rfl) (by rfl) Z.sorted_ (by decide +kernel) (pa_cons (pe_callTy (cr_setS rfl) (by rfl) Z.set_ (by decide +kernel) (pa_cons (pv 0) pa_nil)) pa_nil)) pa_nil)))))), ?_⟩
    refine ⟨_, rfl, (by show 2 ≤ sizeLine; decide), fun t nt => ⟨v, t, _, _, _, _, rfl, upd_same, .cons (.ty _) (.cons (.ty _) .nil), ty_same (same_new nt) rv.ty, kit_lt d nd, _, rfl, ?_⟩⟩
    have s0 : Same H (upd H t (.tup [.ty "list", .ty "tuple"])) := same_new nt
    generalize upd H t (.tup [.ty "list", .ty "tuple"]) = H1 at s0 ⊢
    refine ite2 (fun z => ?_) (fun z => ?_)
    · refine ite2 (fun _ => ?_) (fun z => absurd rfl z)
      refine ⟨_, rfl, ?_⟩
      have hb : badAt d = some (-1) := by
        cases d with
        | list ds => cases z
        | tuple ds => cases z
        | none => rfl
        | bool _ => rfl
        | int _ => rfl
        | str _ => rfl
        | dict _ => rfl
      exact new1 E_c_InvalidLot_init (by decide) (by decide) (.int (-1)) trivial fun cls dd v' H' s e r => q2 (-1) hb cls dd v' H' (s0.trans s) e r
    · obtain ⟨b, vs, ds, rfl, hq, al, hi⟩ := seqD (rv.to s0) (by by_cases e : tyD d = "list" ∨ tyD d = "tuple"; exact e; exact absurd (by rw [decide_eq_false e]; rfl) z)
      obtain ⟨hl, hlv⟩ := hs ds hi
      refine ⟨_, rfl, b, vs, rfl, hq, rfl, _, rfl, ite2 (fun z => ?_) (fun z => ?_)⟩
      · have e0 : ds = [] := by
          have z' := of_decide_eq_true z
          cases ds with
          | nil => rfl
          | cons e r =>
            have := al.len
            cases vs with
            | nil => cases this
            | cons _ _ => cases z'
        subst e0
        refine ⟨_, rfl, ?_⟩
        exact new1 E_c_InvalidLot_init (by decide) (by decide) (.int (-1)) trivial fun cls dd v' H' s e r => q2 (-1) (by unfold badAt; rw [hi]) cls dd v' H' (s0.trans s) e r
      have hne : ds ≠ [] := fun e => by
        subst e
        cases al
        exact z rfl
      rcases hq with hq | hq
      · refine ⟨_, rfl, b, vs, rfl, .inl ⟨hq, for_it walk_enum (fun i σ H' => ∃ y1 y2 : Option V, σ = [some (.ref b), y1, y2] ∧ Same H1 H' ∧ ∀ j e, j < i → ds[j]? = some e → nmD e = true) ⟨_, _, rfl, (fun _ _ z => z), fun j e hj => absurd hj (Nat.not_lt_zero j)⟩ (fun i σ H' _ z => by obtain ⟨_, _, _, s, _⟩ := z; exact s.seq hq) ?_ ?_⟩⟩
        · rintro i x σ H2 H3 _ ⟨y1, y2, rfl, s2, hn⟩ ⟨T, x1, x2, rfl, nT, rfl, e1, e2⟩
          cases e1
          obtain ⟨e, he, re⟩ := (al.to s2).at e2
          have s3 := same_new (o := .tup [.int (i : Nat), x2]) nT
          refine ⟨T, _, rfl, .inl (.inl upd_same), rfl, _, _, rfl, _, _, rfl, rfl, ?_⟩
          refine ⟨_, rfl, x2, e, rfl, re.to s3, (hlv e (List.mem_of_getElem? he)).up, fun H4 s4 => ?_⟩
          have s5 := s2.trans (s3.trans s4)
          refine ⟨_, rfl, ite2 (fun hm => ?_) (fun hm => ?_)⟩
          · have hm' : nmD e = false := by simpa using hm
            refine ⟨_, rfl, ?_⟩
            refine new1 E_c_InvalidLot_init (by decide) (by decide) (.int (i : Int)) trivial fun cls dd v' H' s e' r => q2 (i : Int) ?_ cls dd v' H' ((s0.trans s5).trans s) e' r
            rw [bad_ne hi hne, badIx_at hn he hm']
            rfl
          · have hm' : nmD e = true := by simpa using hm
            refine ⟨_, _, rfl, s5, fun j e' hj he' => ?_⟩
            rcases Nat.lt_succ_iff_lt_or_eq.mp hj with z | z
            · exact hn j e' z he'
            · rw [z, he] at he'
              cases he'
              exact hm'
        · rintro σ H2 ⟨y1, y2, rfl, s2, hn⟩
          obtain ⟨xs, rfl, nm⟩ := nm_list (ds := ds) fun e he => by
            obtain ⟨j, hj, e'⟩ := List.getElem_of_mem he
            exact hn j e (by rw [al.len]; exact hj) (by rw [List.getElem?_eq_getElem hj, e'])
          have ev := al.isStrs
          subst ev
          have hne' : xs ≠ [] := fun z => hne (by rw [z]; rfl)
          obtain ⟨ho, q⟩ := q1 xs hi hne' nm
          rw [List.length_map] at hl
          refine ⟨_, rfl, b, xs, rfl, .inl (s2.seq hq), scan_small (by omega), fun p np => ?_⟩
          refine ⟨p, _, rfl, upd_same, by omega, fun ys u pm so nu => ?_⟩
          refine ⟨u, _, rfl, .inl ⟨.inl (.inl upd_same), fun r nr => ?_⟩⟩
          have s4 := ((s0.trans s2).trans (same_new np)).trans (same_new (o := .lst (ys.map V.str)) nu)
          exact q r ys _ pm so (s4.trans (same_new nr)) (s4.free nr) upd_same
      · refine ⟨_, rfl, b, vs, rfl, .inr ⟨hq, for_it walk_enumT (fun i σ H' => ∃ y1 y2 : Option V, σ = [some (.ref b), y1, y2] ∧ Same H1 H' ∧ ∀ j e, j < i → ds[j]? = some e → nmD e = true) ⟨_, _, rfl, (fun _ _ z => z), fun j e hj => absurd hj (Nat.not_lt_zero j)⟩ (fun i σ H' _ z => by obtain ⟨_, _, _, s, _⟩ := z; exact same_t s hq) ?_ ?_⟩⟩
        · rintro i x σ H2 H3 _ ⟨y1, y2, rfl, s2, hn⟩ ⟨T, x1, x2, rfl, nT, rfl, e1, e2⟩
          cases e1
          obtain ⟨e, he, re⟩ := (al.to s2).at e2
          have s3 := same_new (o := .tup [.int (i : Nat), x2]) nT
          refine ⟨T, _, rfl, .inl (.inl upd_same), rfl, _, _, rfl, _, _, rfl, rfl, ?_⟩
          refine ⟨_, rfl, x2, e, rfl, re.to s3, (hlv e (List.mem_of_getElem? he)).up, fun H4 s4 => ?_⟩
          have s5 := s2.trans (s3.trans s4)
          refine ⟨_, rfl, ite2 (fun hm => ?_) (fun hm => ?_)⟩
          · have hm' : nmD e = false := by simpa using hm
            refine ⟨_, rfl, ?_⟩
            refine new1 E_c_InvalidLot_init (by decide) (by decide) (.int (i : Int)) trivial fun cls dd v' H' s e' r => q2 (i : Int) ?_ cls dd v' H' ((s0.trans s5).trans s) e' r
            rw [bad_ne hi hne, badIx_at hn he hm']
            rfl
          · have hm' : nmD e = true := by simpa using hm
            refine ⟨_, _, rfl, s5, fun j e' hj he' => ?_⟩
            rcases Nat.lt_succ_iff_lt_or_eq.mp hj with z | z
            · exact hn j e' z he'
            · rw [z, he] at he'
              cases he'
              exact hm'
        · rintro σ H2 ⟨y1, y2, rfl, s2, hn⟩
          obtain ⟨xs, rfl, nm⟩ := nm_list (ds := ds) fun e he => by
            obtain ⟨j, hj, e'⟩ := List.getElem_of_mem he
            exact hn j e (by rw [al.len]; exact hj) (by rw [List.getElem?_eq_getElem hj, e'])
          have ev := al.isStrs
          subst ev
          have hne' : xs ≠ [] := fun z => hne (by rw [z]; rfl)
          obtain ⟨ho, q⟩ := q1 xs hi hne' nm
          rw [List.length_map] at hl
          refine ⟨_, rfl, b, xs, rfl, .inr (same_t s2 hq), scan_small (by omega), fun p np => ?_⟩
          refine ⟨p, _, rfl, upd_same, by omega, fun ys u pm so nu => ?_⟩
          refine ⟨u, _, rfl, .inl ⟨.inl (.inl upd_same), fun r nr => ?_⟩⟩
          have s4 := ((s0.trans s2).trans (same_new np)).trans (same_new (o := .lst (ys.map V.str)) nu)
          exact q r ys _ pm so (s4.trans (same_new nr)) (s4.free nr) upd_same
end
end Th
namespace Th
open PySem PySem.Spec PyProof.Rows L2
abbrev s_l_lot_due : Stmt := topS 38
theorem sc_l_lot_due : FnScope ["_law_x", "_law_bad", "_law_k"] ["_law_x"] (defScope s_l_lot_due) := ⟨rfl, rfl, rfl, by decide +kernel, rfl, by decide +kernel, by decide +kernel⟩
def badsTo (ds : List PyData) : Nat → List Nat
  | 0 => []
  | n + 1 => badsTo ds n ++ match ds[n]? with
    | some d => if nmD d = true then [] else [n]
    | none => []
theorem bads_all {ds : List PyData} : ∀ n, badsTo ds n = [] → ∀ j e, j < n → ds[j]? = some e → nmD e = true
  | 0, _, _, _, h, _ => absurd h (Nat.not_lt_zero _)
  | n + 1, z, j, e, h, he => by
    unfold badsTo at z
    obtain ⟨z1, z2⟩ := List.append_eq_nil_iff.mp z
    rcases Nat.lt_succ_iff_lt_or_eq.mp h with w | w
    · exact bads_all n z1 j e w he
    · subst w
      rw [he] at z2
      by_cases hm : nmD e = true
      · exact hm
      · rw [show (match some e with | some d => if nmD d = true then [] else [j] | none => []) = [j] from if_neg hm] at z2
        cases z2
theorem bads_head {ds : List PyData} : ∀ n i r, badsTo ds n = i :: r → ∃ e, ds[i]? = some e ∧ nmD e = false ∧ ∀ j e', j < i → ds[j]? = some e' → nmD e' = true
  | 0, _, _, z => by cases z
  | n + 1, i, r, z => by
    unfold badsTo at z
    cases h : badsTo ds n with
    | cons k s =>
      rw [h] at z
      have e : k = i := (List.cons.inj z).1
      exact bads_head n i s (by rw [h, e])
    | nil =>
      rw [h, List.nil_append] at z
      cases he : ds[n]? with
      | none => rw [he] at z; cases z
      | some e =>
        rw [he] at z
        by_cases hm : nmD e = true
        · rw [show (match some e with | some d => if nmD d = true then [] else [n] | none => []) = [] from if_pos hm] at z
          cases z
        · rw [show (match some e with | some d => if nmD d = true then [] else [n] | none => []) = [n] from if_neg hm] at z
          have e1 : n = i := (List.cons.inj z).1
          subst e1
          exact ⟨e, he, Bool.eq_false_iff.mpr hm, bads_all n h⟩
theorem bads_len {ds : List PyData} : ∀ n, (badsTo ds n).length ≤ n
  | 0 => Nat.le_refl _
  | n + 1 => by
    unfold badsTo
    rw [List.length_append]
    have := bads_len (ds := ds) n
    have h2 : (match ds[n]? with | some d => if nmD d = true then [] else [n] | none => [] : List Nat).length ≤ 1 := by
      split
      · split <;> simp
      · simp
    omega
/-- names, each at its first place -/
def firsts (xs : List Str) : Nat → List Str
  | 0 => []
  | n + 1 => firsts xs n ++ match xs[n]? with
    | some x => if x ∈ xs.take n then [] else [x]
    | none => []
theorem firsts_mem {xs : List Str} {y : Str} : ∀ n, y ∈ firsts xs n ↔ y ∈ xs.take n
  | 0 => by simp [firsts]
  | n + 1 => by
    unfold firsts
    rw [List.mem_append, firsts_mem n, List.take_add_one, List.mem_append]
    cases h : xs[n]? with
    | none => simp
    | some x =>
      by_cases hm : x ∈ xs.take n
      · rw [show (match some x with | some x => if x ∈ xs.take n then [] else [x] | none => []) = [] from if_pos hm]
        constructor
        · intro z
          rcases z with z | z
          · exact .inl z
          · cases z
        · intro z
          rcases z with z | z
          · exact .inl z
          · have : y = x := by simpa using z
            rw [this]
            exact .inl hm
      · rw [show (match some x with | some x => if x ∈ xs.take n then [] else [x] | none => []) = [x] from if_neg hm]
        simp
theorem firsts_nodup {xs : List Str} : ∀ n, (firsts xs n).Nodup
  | 0 => List.nodup_nil
  | n + 1 => by
    unfold firsts
    cases h : xs[n]? with
    | none => rw [show (match (none : Option Str) with | some x => if x ∈ xs.take n then [] else [x] | none => []) = [] from rfl, List.append_nil]; exact firsts_nodup n
    | some x =>
      by_cases hm : x ∈ xs.take n
      · rw [show (match some x with | some x => if x ∈ xs.take n then [] else [x] | none => []) = [] from if_pos hm, List.append_nil]
        exact firsts_nodup n
      · rw [show (match some x with | some x => if x ∈ xs.take n then [] else [x] | none => []) = [x] from if_neg hm]
        refine List.nodup_append.mpr ⟨firsts_nodup n, List.nodup_cons.mpr ⟨List.not_mem_nil, List.nodup_nil⟩, fun a ha b hb e => ?_⟩
        rw [List.mem_singleton.mp hb] at e
        rw [e] at ha
        exact hm ((firsts_mem n).mp ha)
theorem firsts_len {xs : List Str} : ∀ n, (firsts xs n).length ≤ n
  | 0 => Nat.le_refl _
  | n + 1 => by
    unfold firsts
    rw [List.length_append]
    have := firsts_len (xs := xs) n
    have h2 : (match xs[n]? with | some x => if x ∈ xs.take n then [] else [x] | none => [] : List Str).length ≤ 1 := by
      split
      · split <;> simp
      · simp
    omega
theorem firsts_once (xs : List Str) : (firsts xs xs.length).Perm (once [] xs) :=
  (List.perm_ext_iff_of_nodup (firsts_nodup _) (once_nodup xs [] List.nodup_nil)).mpr fun y => by
    rw [firsts_mem, List.take_length, once_mem]
    simp
theorem bads_step {ds : List PyData} {i : Nat} {e : PyData} (h : ds[i]? = some e) : badsTo ds (i + 1) = badsTo ds i ++ if nmD e = true then [] else [i] := by
  show badsTo ds i ++ (match ds[i]? with | some d => if nmD d = true then [] else [i] | none => []) = _
  rw [h]
theorem firsts_step {xs : List Str} {i : Nat} {x : Str} (h : xs[i]? = some x) : firsts xs (i + 1) = firsts xs i ++ if x ∈ xs.take i then [] else [x] := by
  show firsts xs i ++ (match xs[i]? with | some x => if x ∈ xs.take i then [] else [x] | none => []) = _
  rw [h]
theorem da_ints {K : PySem.W.Frag} {H : Hp} : ∀ ns : List Nat, DaAll K H (ns.map fun k => V.int (k : Nat)) (ns.map fun k => PyData.int (k : Nat))
  | [] => .nil
  | n :: r => .cons (.int _) (da_ints r)
theorem eqv_ints (ns : List Nat) : PyData.eqv (.list (ns.map fun k => PyData.int (k : Nat))) (.list []) = ns.isEmpty := by
  cases ns <;> simp [PyData.eqv, PyData.eqvAll]
theorem cut_lo {K : PySem.W.Frag} {H : Hp} {b : Addr} {xs : List V} {i : Nat} {Q : VK} (h : i < xs.length) (hq : SqL K H b xs ∨ SqT K H b xs) (q : ∀ p H', Same H H' → H p = none → (SqL K H' p (xs.take i) ∨ SqT K H' p (xs.take i)) → Q (.ref p) H') :
    rSlL K (.ref b) none (some (0 + (i : Int))) H Q ∨ rSlT K (.ref b) none (some (0 + (i : Int))) H Q := by
  have e : cutV xs none (some (0 + (i : Int))) = xs.take i := by rw [cut_to xs (by omega)]; congr 1; omega
  rcases hq with hq | hq
  · refine .inl ⟨b, xs, rfl, hq, fun p np => ?_⟩
    rw [e]
    exact q p _ (same_new np) np (.inl (.inl (.inl upd_same)))
  · refine .inr ⟨b, xs, rfl, hq, ?_, fun p np => ?_⟩
    · rw [Int.zero_add, HT.sIx_nat]
      omega
    · rw [e]
      exact q p _ (same_new np) np (.inr (.inl (.inl upd_same)))
theorem badIx_names : ∀ {xs : List Str}, (∀ x ∈ xs, isNm x = true) → badIx (xs.map .str) = none
  | [], _ => rfl
  | x :: r, h => by
    show (if nmD (.str x) = true then (badIx (r.map .str)).map (· + 1) else some 0) = none
    rw [if_pos (show nmD (.str x) = true from h x List.mem_cons_self), badIx_names fun y hy => h y (List.mem_cons_of_mem _ hy)]
    rfl
theorem map_str_inj : ∀ {xs ys : List Str}, xs.map PyData.str = ys.map PyData.str → xs = ys
  | [], [], _ => rfl
  | [], _ :: _, e => by cases e
  | _ :: _, [], e => by cases e
  | x :: r, y :: s, e => by
    obtain ⟨e1, e2⟩ := List.cons.inj e
    rw [PyData.str.inj e1, map_str_inj e2]
/-- what a lot of names comes to, told or not -/
def Due (d u : PyData) : Prop := (∃ i : Int, badAt d = some i ∧ u = .tuple [.str "no", .str "InvalidLot", .int i]) ∨
  ∃ xs ys : List Str, itemsD d = some (xs.map .str) ∧ xs ≠ [] ∧ (∀ x ∈ xs, isNm x = true) ∧ ys.Perm (once [] xs) ∧ sortedS ys = true ∧ u = .tuple [.str "told", .tuple (ys.map .str)]
theorem bad_nm {d : PyData} {xs : List Str} (h : itemsD d = some (xs.map .str)) (ne : xs ≠ []) (nm : ∀ x ∈ xs, isNm x = true) : badAt d = none := by
  rw [bad_ne h (fun z => ne (List.map_eq_nil_iff.mp z)), badIx_names nm]
  rfl
theorem Due.one {d u u' : PyData} (a : Due d u) (b : Due d u') : u = u' := by
  rcases a with ⟨i, h, e⟩ | ⟨xs, ys, h, ne, nm, p, s, e⟩
  · rcases b with ⟨i', h', e'⟩ | ⟨xs', ys', h', ne', nm', p', s', e'⟩
    · rw [h] at h'
      cases h'
      rw [e, e']
    · rw [bad_nm h' ne' nm'] at h
      cases h
  · rcases b with ⟨i', h', e'⟩ | ⟨xs', ys', h', ne', nm', p', s', e'⟩
    · rw [bad_nm h ne nm] at h'
      cases h'
    · rw [h] at h'
      have ex := map_str_inj (Option.some.inj h')
      subst ex
      rw [e, e', sorted_one (p.trans p'.symm) (sorted_pair s) (sorted_pair s')]
theorem lv_items {d : PyData} (h : Lv 5 d) : ∀ ds, itemsD d = some ds → ds.length ≤ 60 ∧ ∀ e ∈ ds, Lv 4 e := by
  intro ds e
  cases d with
  | list xs => cases e; exact h
  | tuple xs => cases e; exact h
  | none => cases e
  | bool b => cases e
  | int b => cases e
  | str b => cases e
  | dict b => cases e
theorem Due.lv {d u : PyData} (a : Due d u) (h : Lv 5 d) : Lv 4 u := by
  rcases a with ⟨i, _, e⟩ | ⟨xs, ys, hi, ne, nm, p, s, e⟩
  · rw [e]
    refine ⟨by show 3 ≤ 60; decide, fun x hx => ?_⟩
    rcases List.mem_cons.mp hx with e | m
    · rw [e]; exact lv_of 3 _ (by decide +kernel)
    · rcases List.mem_cons.mp m with e | m
      · rw [e]; exact lv_of 3 _ (by decide +kernel)
      · rw [List.mem_singleton.mp m]; trivial
  · rw [e]
    have hl := (lv_items h _ hi).1
    rw [List.length_map] at hl
    have ol := once_length xs []
    refine ⟨by show 2 ≤ 60; decide, fun x hx => ?_⟩
    rcases List.mem_cons.mp hx with e | m
    · rw [e]; exact lv_of 3 _ (by decide +kernel)
    · rw [List.mem_singleton.mp m]
      refine lv_lot (n := 2) (fun y hy => nm y ?_) (by rw [p.length_eq]; simp at ol; omega)
      have := p.mem_iff.mp hy
      rw [once_mem] at this
      simpa using this
/-- what a lot of names comes to -/
def spLotDue (K : PySem.W.Frag) : Sp := fun vs H Q _ => ∃ (v : V) (d : PyData), vs = [v] ∧ Da K H v d ∧ Lv 5 d ∧ ∀ u r H', Due d u → Same H H' → Da K H' (.ref r) u → Q (.ref r) H'
section
variable {P : Program} {w : World} {K : PySem.W.Frag} {mg : Str → Option Value} {base : Heap}
theorem has_l_lot_due (Z : Zs mg) (A : At K mg "_law_lot_due" s_l_lot_due ["_law_x"]) (h_l_is_name : Has P w K mg base "_law_is_name" s_l_is_name 2 ["_law_x"] (spJ K 5 nmD)) : Has P w K mg base "_law_lot_due" s_l_lot_due 3 ["_law_x"] (spLotDue K) := by
  obtain ⟨f, fd, F, mg1, bd⟩ := A
  obtain ⟨f_l_is_name, fd_l_is_name, G_l_is_name, m_l_is_name, k_l_is_name, b_l_is_name, F_l_is_name⟩ := h_l_is_name
  refine ⟨f, fd, ?_, mg1, F.kp, bd, F⟩
  refine F.ok sc_l_lot_due (fun vs H Q E h => ?_) (fun cdv A outer s H vs Q E hr h => ?_)
  · obtain ⟨v, d, rfl, _⟩ := h
    rfl
  · obtain ⟨v, d, rfl, rv, lvd, q⟩ := h
    have hs := lv_items lvd
    have q1 : ∀ i : Int, badAt d = some i → ∀ r H', Same H H' → H r = none → H' r = some (.tup [.str "no", .str "InvalidLot", .int i]) → Q (.ref r) H' := fun i hb r H' s nr er =>
      q _ r H' (.inl ⟨i, hb, rfl⟩) s (Da.newT er (.cons (.str _) (.cons (.str _) (.cons (.int _) .nil))))
    have q2 : ∀ xs : List Str, itemsD d = some (xs.map .str) → xs ≠ [] → (∀ x ∈ xs, isNm x = true) → ∀ t r (ys : List Str) H', ys.Perm (once [] xs) → sortedS ys = true → Same H H' → H' t = some (.tup (ys.map V.str)) → H' r = some (.tup [.str "told", .ref t]) → Q (.ref r) H' := fun xs hi ne nm t r ys H' py sy s et er =>
      q _ r H' (.inr ⟨xs, ys, hi, ne, nm, py, sy, rfl⟩) s (Da.newT er (.cons (.str _) (.cons (Da.newT et (DaAll.strs _)) .nil)))
    have nd := rv.nodict
    refine ⟨_, (pss_cons (ps_if (PW.pt (pw_or (pt_not (pt_val (pe_callB (show CallR _ (.builtin "isinstance") (rIsiT K) from call_isiT) (by rfl) Z.isinstance_ (by decide +kernel) (pa_cons (pv 0) (pa_cons (pe_tup (pa_cons (pe_bltn (v := .ty "list") (by rfl) Z.list_ (by decide +kernel) rfl) (pa_cons (pe_bltn (v := .ty "tuple") (by rfl) Z.tuple_ (by decide +kernel) rfl) pa_nil))) pa_nil))))) (pw_or1 (pt_cmpR op_eq (pe_callB call_len_seq (by rfl) Z.len_ (by decide +kernel) (pa_cons (pv 0) pa_nil)) pe_int (nomark _))))) (pss_one (ps_ret (pe_tup (pa_cons pe_str (pa_cons pe_str (pa_cons (pe_un un_neg pe_int) pa_nil)))))) pss_nil) (pss_cons (ps_setLc (i := 1) (own := [("_law_k", 2)]) (g := gName 2) (by rfl) sc_l_lot_due.nd rfl rfl (sw_true rfl rfl rfl (by decide +kernel)) (pi_range1 (by rfl) Z.range_ (pa_cons (pe_callB call_len_seq (by rfl) Z.len_ (by decide +kernel) (pa_cons (pv 0) pa_nil)) pa_nil)) (blkOk_by (own := [("_law_k", 2)]) (N := ["_law_x", "_law_bad", "_law_k"]) (sc := defScope s_l_lot_due) (by decide +kernel)) (fun _ _ _ _ _ => pg_name (i := 2) sc_l_lot_due.nd rfl (Or.inl rfl)) (fun _ _ _ _ _ => (pts_one (pt_not (pt_val (pe_call G_l_is_name (hr.mono (by decide)) (by rfl) m_l_is_name k_l_is_name b_l_is_name .nil pass0 (pa_cons (pe_ix (show IxR _ (rIx K) from ix_seq) (pv 0) (pv 2) (fun _ _ => rfl)) pa_nil)))))) (fun _ _ _ _ _ => (pv 2))) (pss_cons (ps_if (pt_cmpR (op_neD hr.units) (pv 1) (pe_lst pa_nil) (nomark _)) (pss_one (ps_ret (pe_tup (pa_cons pe_str (pa_cons pe_str (pa_cons (pe_ix ix_list (pv 1) pe_int (fun _ _ => rfl)) pa_nil)))))) pss_nil) (pss_one (ps_ret (pe_tup (pa_cons pe_str (pa_cons (pe_callTy call_tuple_of (by rfl) Z.tuple_ (by decide +kernel) (pa_cons (pe_callB cr_sortedS (by rfl) Z.sorted_ (by decide +kernel) (pa_cons (pe_lc (own := [("_law_k", 2)]) (g := gName 2) (by rfl) sc_l_lot_due.nd (pi_range1 (by rfl) Z.range_ (pa_cons (pe_callB call_len_seq (by rfl) Z.len_ (by decide +kernel) (pa_cons (pv 0) pa_nil)) pa_nil)) (blkOk_by (own := [("_law_k", 2)]) (N := ["_law_x", "_law_bad", "_law_k"]) (sc := defScope s_l_lot_due) (by decide +kernel)) (fun _ _ _ _ _ => pg_name (i := 2) sc_l_lot_due.nd rfl (Or.inl rfl)) (fun _ _ _ _ _ => (pts_one (pt_cmpR (show OpR _ (compareOp .NotIn) (rIn K true) from op_notIn_seq) (pe_ix (show IxR _ (rIx K) from ix_seq) (pv 0) (pv 2) (fun _ _ => rfl)) (pe_slice (show SlR _ (fun x lo hi H Q => rSlL K x lo hi H Q ∨ rSlT K x lo hi H Q) from SlR.or sl_list sl_tup) (pv 0) po_none (po_some (pv 2))) (by rfl)))) (fun _ _ _ _ _ => (pe_ix (show IxR _ (rIx K) from ix_seq) (pv 0) (pv 2) (fun _ _ => rfl)))) pa_nil)) pa_nil)) pa_nil)))))))), ?_⟩
    refine ⟨_, rfl, (by show 2 ≤ sizeLine; decide), fun t nt => ⟨v, t, _, _, _, _, rfl, upd_same, .cons (.ty _) (.cons (.ty _) .nil), ty_same (same_new nt) rv.ty, kit_lt d nd, _, rfl, ?_⟩⟩
    have s0 : Same H (upd H t (.tup [.ty "list", .ty "tuple"])) := same_new nt
    generalize upd H t (.tup [.ty "list", .ty "tuple"]) = H1 at s0 ⊢
    refine ite2 (fun z => ?_) (fun z => ?_)
    · refine ite2 (fun _ => ?_) (fun z => absurd rfl z)
      have hb : badAt d = some (-1) := by
        cases d with
        | list ds => cases z
        | tuple ds => cases z
        | none => rfl
        | bool _ => rfl
        | int _ => rfl
        | str _ => rfl
        | dict _ => rfl
      exact ⟨1, rfl, by show 3 ≤ sizeLine; decide, fun r nr => q1 (-1) hb r _ (s0.trans (same_new nr)) (s0.free nr) upd_same⟩
    obtain ⟨b, vs, ds, rfl, hq, al, hi⟩ := seqD (rv.to s0) (by by_cases e : tyD d = "list" ∨ tyD d = "tuple"; exact e; exact absurd (by rw [decide_eq_false e]; rfl) z)
    obtain ⟨hl, hlv⟩ := hs ds hi
    have all := al.len
    refine ⟨_, rfl, b, vs, rfl, hq, rfl, _, rfl, ite2 (fun z => ?_) (fun z => ?_)⟩
    · have e0 : ds = [] := by
        have z' := of_decide_eq_true z
        cases ds with
        | nil => rfl
        | cons e r =>
          cases vs with
          | nil => cases all
          | cons _ _ => cases z'
      subst e0
      exact ⟨1, rfl, by show 3 ≤ sizeLine; decide, fun r nr => q1 (-1) (by unfold badAt; rw [hi]) r _ (s0.trans (same_new nr)) (s0.free nr) upd_same⟩
    have hne : ds ≠ [] := fun e => by
      subst e
      cases al
      exact z rfl
    -- the things that are no names
    refine ⟨_, rfl, b, vs, rfl, hq, _, rfl, by omega, by omega, fun B nB => ?_⟩
    have en : ((vs.length : Nat) : Int).toNat = ds.length := by omega
    rw [en]
    refine lc_range (lo := 0) (n := ds.length) (fun i H2 => Same H1 H2 ∧ H2 B = some (.lst ((badsTo ds i).map fun k => V.int (k : Nat)))) ⟨same_new nB, upd_same⟩ ?_ ?_
    · rintro i H2 hi' ⟨s2, e2⟩
      obtain ⟨x, hx⟩ : ∃ x, vs[i]? = some x := ⟨_, List.getElem?_eq_getElem (by omega)⟩
      obtain ⟨e, he, re⟩ := (al.to s2).at hx
      refine ⟨rfl, _, rfl, _, rfl, ix_any (sq_any s2 hq) hx ⟨x, e, rfl, re, (hlv e (List.mem_of_getElem? he)).up, fun H3 s3 => ⟨_, rfl, ite2 (fun hm => ?_) (fun hm => ?_)⟩⟩⟩
      · have hm' : ¬ nmD e = true := by simpa using hm
        refine ⟨_, rfl, _, s3 _ _ e2, slineL (by have := bads_len (ds := ds) i; rw [List.length_map]; omega), same_mut (s2.trans s3) nB, ?_⟩
        rw [upd_same, bads_step he, if_neg hm', List.map_append, Int.zero_add]
        rfl
      · have hm' : nmD e = true := by simpa using hm
        exact ⟨s2.trans s3, by rw [s3 _ _ e2, bads_step he, if_pos hm', List.append_nil]⟩
    · rintro H2 ⟨s2, e2⟩
      refine ⟨_, rfl, Nat.zero_le _, fun u nu => ?_⟩
      have s3 := s2.trans (same_new (o := .lst []) nu)
      have lvb : Lv 1 (.list ((badsTo ds ds.length).map fun k => PyData.int (k : Nat))) :=
        ⟨by rw [List.length_map]; have := bads_len (ds := ds) ds.length; omega, fun x hx => by obtain ⟨k, _, rfl⟩ := List.mem_map.mp hx; trivial⟩
      have e3 := (same_new (o := .lst []) nu) _ _ e2
      refine ⟨.list ((badsTo ds ds.length).map fun k => .int (k : Nat)), .list [], (Da.newL (K := K) e3 (da_ints _)).dp, (Da.newL (K := K) upd_same .nil).dp, lvb.shaped (by decide), (lv_of 1 _ (by decide +kernel) : Lv 1 (.list [])).shaped (by decide), _, rfl, ?_⟩
      rw [eqv_ints]
      generalize upd H2 u (.lst []) = H3 at s3 e3 ⊢
      have hq3 := sq_any s3 hq
      refine ite2 (fun z => ?_) (fun z => ?_)
      · cases hb : badsTo ds ds.length with
        | nil => rw [hb] at z; cases z
        | cons k r =>
          obtain ⟨e, he, hm, hb4⟩ := bads_head _ _ _ hb
          rw [hb] at e3
          refine ⟨_, rfl, B, _, _, _, rfl, rfl, .inl (.inl e3), atI_of (by decide) rfl, by show 3 ≤ sizeLine; decide, fun r nr => ?_⟩
          refine q1 (k : Int) (by rw [bad_ne hi hne, badIx_at hb4 he hm]; rfl) r _ ((s0.trans s3).trans (same_new nr)) ((s0.trans s3).free nr) upd_same
      have hb : badsTo ds ds.length = [] := by
        cases hb : badsTo ds ds.length with
        | nil => rfl
        | cons k r => rw [hb] at z; exact absurd rfl z
      obtain ⟨xs, rfl, nm⟩ := nm_list (ds := ds) fun e he => by
        obtain ⟨j, hj, e'⟩ := List.getElem_of_mem he
        exact bads_all _ hb j e hj (by rw [List.getElem?_eq_getElem hj, e'])
      have ev := al.isStrs
      subst ev
      have hne' : xs ≠ [] := fun z => hne (by rw [z]; rfl)
      rw [List.length_map] at hl
      have lm : (xs.map V.str).length = xs.length := List.length_map _
      refine ⟨_, rfl, b, _, rfl, hq3, _, rfl, by omega, by omega, fun S nS => ?_⟩
      have en2 : (((xs.map V.str).length : Nat) : Int).toNat = xs.length := by omega
      rw [en2]
      refine lc_range (lo := 0) (n := xs.length) (fun i H4 => Same H3 H4 ∧ H4 S = some (.lst ((firsts xs i).map V.str))) ⟨same_new nS, upd_same⟩ ?_ ?_
      · rintro i H4 hi' ⟨s4, e4⟩
        obtain ⟨x, hx⟩ : ∃ x, xs[i]? = some x := ⟨_, List.getElem?_eq_getElem (by omega)⟩
        have hxv : (xs.map V.str)[i]? = some (.str x) := by rw [List.getElem?_map, hx]; rfl
        refine ⟨rfl, _, rfl, _, rfl, ix_any (sq_any s4 hq3) hxv ?_⟩
        refine ⟨_, rfl, _, rfl, _, rfl, cut_lo (by omega) (sq_any s4 hq3) fun p H5 s5 np sq => ?_⟩
        rw [← List.map_take] at sq
        refine ⟨p, _, rfl, sq, rfl, flatS _, _, rfl, ?_⟩
        rw [if_pos rfl, inS]
        have s45 := s4.trans s5
        refine ite2 (fun hm => ?_) (fun hm => ?_)
        · have hm' : x ∉ xs.take i := by simpa using hm
          refine ⟨_, rfl, _, rfl, ix_any (sq_any s45 hq3) hxv ⟨_, s5 _ _ e4, slineL (by have := firsts_len (xs := xs) i; rw [List.length_map]; omega), same_mut s45 nS, ?_⟩⟩
          rw [upd_same, firsts_step hx, if_neg hm', List.map_append]
          rfl
        · have hm' : x ∈ xs.take i := by
            by_cases z : x ∈ xs.take i
            · exact z
            · exact absurd (by rw [decide_eq_false z]; rfl) hm
          exact ⟨s45, by rw [s5 _ _ e4, firsts_step hx, if_pos hm', List.append_nil]⟩
      · rintro H4 ⟨s4, e4⟩
        have fl := firsts_len (xs := xs) xs.length
        refine ⟨S, firsts xs xs.length, rfl, .inl (.inl e4), by omega, fun ys r2 pm so nr2 => ?_⟩
        have s5 := (s3.trans s4).trans (same_new (o := .lst (ys.map V.str)) nr2)
        refine ⟨r2, _, rfl, .inl ⟨.inl (.inl upd_same), fun t nt => ?_⟩⟩
        have s6 := s5.trans (same_new (o := .tup (ys.map V.str)) nt)
        refine ⟨by show 2 ≤ sizeLine; decide, fun r nr => ?_⟩
        exact q2 xs hi hne' nm t r ys _ (pm.trans (firsts_once xs)) so ((s0.trans s6).trans (same_new nr)) (same_new nr _ _ upd_same) upd_same
end
end Th
namespace Th
open PySem PySem.Spec PyProof.Rows L2
abbrev s_l_listed : Stmt := topS 39
theorem sc_l_listed : FnScope ["_law_state", "_law_pool", "_law_some", "_law_k", "_law_turn", "_law_spot"] ["_law_state", "_law_pool"] (defScope s_l_listed) := ⟨rfl, rfl, rfl, by decide +kernel, rfl, by decide +kernel, by decide +kernel⟩
structure Bn2 (K : PySem.W.Frag) (D : DS) (H0 H : Hp) (R : Addr) (vs : List V) (ds : List PyData) (n : Nat) : Prop where
  g : Go D H0 H
  rp : R ≠ D.p
  er : H R = some (.lst vs)
  da : DaAll K (hid D.p H) vs ds
  lv : ∀ d ∈ ds, Lv 3 d
  len : ds.length ≤ n
theorem Bn2.to {K : PySem.W.Frag} {D : DS} {H0 H H' : Hp} {R : Addr} {vs : List V} {ds : List PyData} {n : Nat} (s : Bn2 K D H0 H R vs ds n) (g : Go D H H') : Bn2 K D H0 H' R vs ds n :=
  ⟨s.g.trans g, s.rp, g.old s.rp s.er, s.da.to g.sm, s.lv, s.len⟩
theorem Bn2.new {K : PySem.W.Frag} {D : DS} {H0 H : Hp} {R q : Addr} {o : HO} {vs : List V} {ds : List PyData} {n : Nat} (s : Bn2 K D H0 H R vs ds n) (h : H q = none) : Bn2 K D H0 (upd H q o) R vs ds n := s.to (Go.of s.g.st (same_new h))
theorem Bn2.up {K : PySem.W.Frag} {D : DS} {H0 H : Hp} {R : Addr} {vs : List V} {ds : List PyData} {n m : Nat} (s : Bn2 K D H0 H R vs ds n) (h : n ≤ m) : Bn2 K D H0 H R vs ds m := ⟨s.g, s.rp, s.er, s.da, s.lv, Nat.le_trans s.len h⟩
theorem Bn2.put {K : PySem.W.Frag} {D : DS} {H0 H : Hp} {R : Addr} {vs : List V} {ds : List PyData} {n m : Nat} (s : Bn2 K D H0 H R vs ds n) {q : Addr} {ws : List V} {es : List PyData} (nq : H q = none) (da : DaAll K (hid D.p H) ws es) (lv : ∀ d ∈ es, Lv 3 d) (len : es.length ≤ m) :
    Bn2 K D H0 (upd H q (.lst ws)) q ws es m :=
  ⟨s.g.new nq, s.g.st.ne_new nq, upd_same, da.to (Go.of s.g.st (same_new nq)).sm, lv, len⟩
theorem cut_sum {vs : List V} {spot : Int} (h : 0 ≤ spot) : (cutV vs none (some spot)).length + (cutV vs (some (spot + 1)) none).length ≤ vs.length := by
  unfold cutV
  rw [List.length_take, List.length_drop, List.length_take, List.length_drop, HT.sIx_none, HT.sIx_none]
  have e1 : HT.sIx vs.length vs.length (some spot) = min spot.toNat vs.length := by
    have z : spot = ((spot.toNat : Nat) : Int) := by omega
    rw [z, HT.sIx_nat, Int.toNat_natCast]
  have e2 : HT.sIx vs.length 0 (some (spot + 1)) = min (spot + 1).toNat vs.length := by
    have z : spot + 1 = (((spot + 1).toNat : Nat) : Int) := by omega
    rw [z, HT.sIx_nat, Int.toNat_natCast]
  rw [e1, e2]
  omega
theorem da_perm {K : PySem.W.Frag} {H : Hp} {vs ys : List V} (p : ys.Perm vs) : ∀ {ds : List PyData}, DaAll K H vs ds → ∃ es, DaAll K H ys es ∧ es.Perm ds := by
  induction p with
  | nil => intro ds h; exact ⟨ds, h, .refl _⟩
  | cons x _ ih =>
    intro ds h
    cases h with
    | cons h1 h2 =>
      obtain ⟨es, a, b⟩ := ih h2
      exact ⟨_, .cons h1 a, b.cons _⟩
  | swap x y l =>
    intro ds h
    cases h with
    | cons h1 h2 =>
      cases h2 with
      | cons h3 h4 => exact ⟨_, .cons h3 (.cons h1 h4), .swap _ _ _⟩
  | trans _ _ ih1 ih2 =>
    intro ds h
    obtain ⟨es, a, b⟩ := ih2 h
    obtain ⟨fs, c, e⟩ := ih1 a
    exact ⟨fs, c, e.trans b⟩

theorem cut_two {vs : List V} {spot : Int} (h : 0 ≤ spot) : (cutV vs none (some spot)).length + (cutV vs (some spot) none).length = vs.length := by
  unfold cutV
  rw [List.length_take, List.length_drop, List.length_take, List.length_drop, HT.sIx_none, HT.sIx_none]
  have z : spot = ((spot.toNat : Nat) : Int) := by omega
  have e1 : HT.sIx vs.length vs.length (some spot) = min spot.toNat vs.length := by
    rw [z, HT.sIx_nat, Int.toNat_natCast]
  have e2 : HT.sIx vs.length 0 (some spot) = min spot.toNat vs.length := by
    rw [z, HT.sIx_nat, Int.toNat_natCast]
  rw [e1, e2]
  omega
/-- a list of names, and now and then of other things -/
def spListed (K : PySem.W.Frag) : Sp := fun vs H Q _ => ∃ (D : DS) (q : Addr) (xs : List Str), vs = [.ref D.p, .ref q] ∧ Drw D H ∧ SqL K (hid D.p H) q (xs.map V.str) ∧ 0 < xs.length ∧ xs.length ≤ 60 ∧ (∀ x ∈ xs, isNm x = true) ∧
  ∀ (r : Addr) (ws : List V) (ds : List PyData) H', ds.length ≤ 20 → (∀ d ∈ ds, Lv 3 d) → r ≠ D.p → H' r = some (.lst ws) → DaAll K (hid D.p H') ws ds → Go D H H' → Q (.ref r) H'
section
variable {P : Program} {w : World} {K : PySem.W.Frag} {mg : Str → Option Value} {base : Heap}
theorem has_l_listed (Z : Zs mg) (A : At K mg "_law_listed" s_l_listed ["_law_state", "_law_pool"]) (h_l_draw : Has P w K mg base "_law_draw" s_l_draw 1 ["_law_state", "_law_many"] (spDraw)) (h_l_pick : Has P w K mg base "_law_pick" s_l_pick 2 ["_law_state", "_law_pool"] (spPick K)) (h_l_odd : Has P w K mg base "_law_odd" s_l_odd 3 ["_law_state"] (spOdd K)) (h_l_shuffle : Has P w K mg base "_law_shuffle" s_l_shuffle 2 ["_law_state", "_law_pool"] (spShuffle K)) : Has P w K mg base "_law_listed" s_l_listed 4 ["_law_state", "_law_pool"] (spListed K) := by
  obtain ⟨f, fd, F, mg1, bd⟩ := A
  obtain ⟨f_l_draw, fd_l_draw, G_l_draw, m_l_draw, k_l_draw, b_l_draw, F_l_draw⟩ := h_l_draw
  obtain ⟨f_l_pick, fd_l_pick, G_l_pick, m_l_pick, k_l_pick, b_l_pick, F_l_pick⟩ := h_l_pick
  obtain ⟨f_l_odd, fd_l_odd, G_l_odd, m_l_odd, k_l_odd, b_l_odd, F_l_odd⟩ := h_l_odd
  obtain ⟨f_l_shuffle, fd_l_shuffle, G_l_shuffle, m_l_shuffle, k_l_shuffle, b_l_shuffle, F_l_shuffle⟩ := h_l_shuffle
  refine ⟨f, fd, ?_, mg1, F.kp, bd, F⟩
  refine F.ok sc_l_listed (fun vs H Q E h => ?_) (fun cdv A outer s H vs Q E hr h => ?_)
  · obtain ⟨D, p, xs, rfl, _⟩ := h
    rfl
  · obtain ⟨D, p, xs, rfl, d, hS, h0, h1, nm, q⟩ := h
    refine ⟨_, (pss_cons (ps_set (i := 2) sc_l_listed.nd rfl (Or.inl rfl) (pe_call G_l_shuffle (hr.mono (by decide)) (by rfl) m_l_shuffle k_l_shuffle b_l_shuffle .nil pass0 (pa_cons (pv 0) (pa_cons (pe_lc (own := [("_law_k", 3)]) (g := gName 3) (by rfl) sc_l_listed.nd (pi_range1 (by rfl) Z.range_ (pa_cons (pe_op op_add pe_int (pe_call G_l_draw (hr.mono (by decide)) (by rfl) m_l_draw k_l_draw b_l_draw .nil pass0 (pa_cons (pv 0) (pa_cons pe_int pa_nil)))) pa_nil)) (blkOk_by (own := [("_law_k", 3)]) (N := ["_law_state", "_law_pool", "_law_some", "_law_k", "_law_turn", "_law_spot"]) (sc := defScope s_l_listed) (by decide +kernel)) (fun _ _ _ _ _ => pg_name (i := 3) sc_l_listed.nd rfl (Or.inl rfl)) (fun _ _ _ _ _ => pts_nil) (fun _ _ _ _ _ => (pe_call G_l_pick (hr.mono (by decide)) (by rfl) m_l_pick k_l_pick b_l_pick .nil pass0 (pa_cons (pv 0) (pa_cons (pv 1) pa_nil))))) pa_nil)))) (pss_cons (ps_for PassesOwn.never rfl (pi_range1 (by rfl) Z.range_ (pa_cons (pe_call G_l_pick (hr.mono (by decide)) (by rfl) m_l_pick k_l_pick b_l_pick .nil pass0 (pa_cons (pv 0) (pa_cons (pe_lst (pa_cons pe_int (pa_cons pe_int (pa_cons pe_int (pa_cons pe_int pa_nil))))) pa_nil))) pa_nil)) (pg_name (i := 4) sc_l_listed.nd rfl (Or.inl rfl)) (pss_cons (ps_set (i := 5) sc_l_listed.nd rfl (Or.inl rfl) (pe_call G_l_draw (hr.mono (by decide)) (by rfl) m_l_draw k_l_draw b_l_draw .nil pass0 (pa_cons (pv 0) (pa_cons (pe_op op_add (pe_callB call_len_seq (by rfl) Z.len_ (by decide +kernel) (pa_cons (pv 2) pa_nil)) pe_int) pa_nil)))) (pss_one (ps_set (i := 2) sc_l_listed.nd rfl (Or.inl rfl) (pe_op op_cat (pe_op op_cat (pe_slice sl_list (pv 2) po_none (po_some (pv 5))) (pe_lst (pa_cons (pe_call G_l_odd (hr.mono (by decide)) (by rfl) m_l_odd k_l_odd b_l_odd .nil pass0 (pa_cons (pv 0) pa_nil)) pa_nil))) (pe_slice sl_list (pv 2) (po_some (pv 5)) po_none)))))) (pss_one (ps_ret (pv 2))))), ?_⟩
    have lm : (xs.map V.str).length = xs.length := List.length_map _
    have big : ∀ n : Nat, n ≤ 1000 → n ≤ sizeLine := fun n hn => sline (by omega)
    refine ⟨_, rfl, _, rfl, D, 9, rfl, d, by decide, by decide, fun r H1 r0 r1 g1 => ⟨_, _, rfl, rfl, _, rfl, by omega, by omega, fun L nL => ?_⟩⟩
    have nLp := g1.st.ne_new nL
    refine lc_range (lo := 0) (n := (1 + r).toNat) (fun i H2 => Go D H H2 ∧ ∃ zs : List Str, zs.length = i ∧ (∀ z ∈ zs, z ∈ xs) ∧ H2 L = some (.lst (zs.map V.str))) ⟨g1.new nL, [], rfl, (fun z hz => nomatch hz), upd_same⟩ ?_ ?_
    · rintro i H2 hi ⟨g2, zs, lz, mz, ez⟩
      refine ⟨rfl, _, rfl, _, rfl, D, p, xs.map V.str, rfl, g2.st, g2.sm.seq hS, by omega, by omega, fun j v H3 hv g3 => ?_⟩
      obtain ⟨x, hx, rfl⟩ := getmap hv
      refine ⟨_, g3.old nLp ez, slineL (by rw [List.length_map]; omega), (g2.trans g3).mut d (g1.free d nL), zs ++ [x], by rw [List.length_append, lz]; rfl, fun z hz => ?_, by rw [upd_same, List.map_append]; rfl⟩
      rcases List.mem_append.mp hz with m | m
      · exact mz z m
      · rw [List.mem_singleton.mp m]; exact List.mem_of_getElem? hx
    rintro H2 ⟨g2, zs, lz, mz, ez⟩
    have lzm : (zs.map V.str).length = zs.length := List.length_map _
    refine ⟨D, L, _, rfl, g2.st, sqh nLp ez, by omega, fun R0 ys H3 pm nr er g3 => ?_⟩
    obtain ⟨us, rfl, pu⟩ := perm_strs pm
    have lu : us.length = zs.length := pu.length_eq
    have s0 : Bn2 K D H H3 R0 (us.map V.str) (us.map .str) 10 :=
      ⟨g2.trans g3, g2.st.ne_new nr, er, DaAll.strs us, fun e he => lv_names (fun x hx => nm x (mz x (pu.mem_iff.mp hx))) 3 e he, by rw [List.length_map]; omega⟩
    -- other things put in
    refine ⟨_, rfl, by show 4 ≤ sizeLine; decide, fun q1 n1 => ?_⟩
    have s1 := s0.new (o := .lst [.int 0, .int 0, .int 1, .int 2]) n1
    refine ⟨D, q1, _, rfl, s1.g.st, sqh (s0.g.st.ne_new n1) upd_same, by show 0 < 4; decide, by show 4 ≤ 1000; decide, fun i3 w3 H4 hw3 g4 => ?_⟩
    have s2 := s1.to g4
    obtain ⟨n, rfl, hn⟩ : ∃ n : Nat, w3 = .int (n : Nat) ∧ n ≤ 2 := by
      rcases List.mem_cons.mp (List.mem_of_getElem? hw3) with e | m
      · exact ⟨0, e, by omega⟩
      · rcases List.mem_cons.mp m with e | m
        · exact ⟨0, e, by omega⟩
        · rcases List.mem_cons.mp m with e | m
          · exact ⟨1, e, by omega⟩
          · exact ⟨2, List.mem_singleton.mp m, by omega⟩
    refine ⟨_, rfl, by omega, by omega, for_range (lo := 0) (n := n) (fun i σ H9 => ∃ (R : Addr) (vs : List V) (ds : List PyData) (y1 y2 y3 : Option V), σ = [some (.ref D.p), some (.ref p), some (.ref R), y1, y2, y3] ∧ Bn2 K D H H9 R vs ds (10 + i)) ⟨R0, _, _, _, _, _, rfl, s2⟩ ?_ ?_⟩
    · clear s0 s1 s2
      rintro i σ H9 hi ⟨R, vs, ds, y1, y2, y3, rfl, s⟩
      have l1 := s.da.len
      have l2 := s.len
      refine ⟨_, rfl, _, rfl, R, _, rfl, .inl (.inl (.inl s.er)), _, _, rfl, rfl, D, _, rfl, s.g.st, by omega, by omega, fun spot H5 sp0 sp1 g5 => ?_⟩
      have s2 := s.to g5
      refine ⟨_, rfl, _, rfl, spot, rfl, R, vs, rfl, .inl (.inl s2.er), fun q1 n1 => ?_⟩
      have s3 := s2.new (o := .lst (cutV vs none (some spot))) n1
      refine ⟨_, rfl, D, rfl, s3.g.st, fun v2 d2 H8 hd2 g8 r2 => ?_⟩
      have s6 := s3.to g8
      have eq1 := g8.old (s2.g.st.ne_new n1) (upd_same (o := .lst (cutV vs none (some spot))))
      refine ⟨by show 1 ≤ sizeLine; decide, fun q2 n2 => ?_⟩
      have s7 := s6.new (o := .lst [v2]) n2
      have c1 := cutL (lo := none) (hi := some spot) l1
      have c2 := cutL (lo := some spot) (hi := none) l1
      refine ⟨q1, q2, _, _, rfl, rfl, kp eq1 n2, upd_same, big _ (by show (cutV vs none (some spot)).length + 1 ≤ 1000; omega), fun q3 n3 => ?_⟩
      have s8 := s7.new (o := .lst (cutV vs none (some spot) ++ [v2])) n3
      refine ⟨_, rfl, _, rfl, spot, rfl, R, vs, rfl, .inl (.inl s8.er), fun q4 n4 => ?_⟩
      have s9 := s8.new (o := .lst (cutV vs (some spot) none)) n4
      refine ⟨q3, q4, _, _, rfl, rfl, kp upd_same n4, upd_same, big _ (by rw [List.length_append]; show (cutV vs none (some spot)).length + 1 + (cutV vs (some spot) none).length ≤ 1000; omega), fun q5 n5 => ?_⟩
      obtain ⟨es1, d1, m1, k1⟩ := s9.da.cut none (some spot)
      obtain ⟨es2, d2', m2, k2⟩ := s9.da.cut (some spot) none
      have ra := r2.to (Go.of s6.g.st (same_new (o := .lst [v2]) n2)).sm
      have rb := ra.to (Go.of s7.g.st (same_new (o := .lst (cutV vs none (some spot) ++ [v2])) n3)).sm
      have rc := rb.to (Go.of s8.g.st (same_new (o := .lst (cutV vs (some spot) none)) n4)).sm
      have rr : DaAll K _ [v2] [d2] := .cons rc .nil
      have cs := cut_two (vs := vs) sp0
      have k3 := d1.len
      have k4 := d2'.len
      exact ⟨q5, _, _, _, _, _, rfl, s9.put n5 ((d1.app rr).app d2') (lv_snoc (lv_snoc (fun e he => s.lv e (m1 e he)) (lv_one (odds_lv d2 hd2).up)) (fun e he => s.lv e (m2 e he))) (by rw [List.length_append, List.length_append]; show es1.length + 1 + es2.length ≤ 10 + (i + 1); omega)⟩
    · rintro σ H9 ⟨R, vs, ds, y1, y2, y3, rfl, s⟩
      exact ⟨_, rfl, q R vs ds _ (by have := s.len; omega) s.lv s.rp s.er s.da s.g⟩
end
end Th
namespace Th
open PySem PySem.Spec PyProof.Rows L2
abbrev s_l_fields : Stmt := topS 29
theorem sc_l_fields : FnScope ["_law_e"] ["_law_e"] (defScope s_l_fields) := ⟨rfl, rfl, rfl, by decide +kernel, rfl, by decide +kernel, by decide +kernel⟩
def atC : List Str := ["InvalidLot", "InvalidFind", "InvalidWord", "InvalidFact"]
def nameC : List Str := ["DuplicateName", "UnknownName", "UnknownFind"]
/-- the fields that are told of an error -/
def FlA (code : Str) (fs : List (Str × V)) (ws : List V) : Prop :=
  (code = "InvalidName" ∧ ∃ v, fs.lookup ("value" : Str) = some v ∧ ws = [v]) ∨ (code ∈ atC ∧ ∃ v, fs.lookup ("at" : Str) = some v ∧ ws = [v]) ∨ (code ∈ nameC ∧ ∃ v, fs.lookup ("name" : Str) = some v ∧ ws = [v]) ∨
  (code = "InvalidText" ∧ ∃ v u, fs.lookup ("line" : Str) = some v ∧ fs.lookup ("why" : Str) = some u ∧ ws = [v, u]) ∨ (code = "TooMany" ∧ ∃ v, fs.lookup ("most" : Str) = some v ∧ ws = [v]) ∨
  (code ≠ "InvalidName" ∧ code ∉ atC ∧ code ∉ nameC ∧ code ≠ "InvalidText" ∧ code ≠ "TooMany" ∧ ws = [])
theorem FlA.c1 {code : Str} {fs : List (Str × V)} {ws : List V} (h : FlA code fs ws) (e : code = "InvalidName") : ∃ v, fs.lookup ("value" : Str) = some v ∧ ws = [v] := by
  subst e
  rcases h with ⟨_, h⟩ | ⟨m, _⟩ | ⟨m, _⟩ | ⟨m, _⟩ | ⟨m, _⟩ | ⟨m, _⟩
  · exact h
  · exact absurd m (by decide +kernel)
  · exact absurd m (by decide +kernel)
  · exact absurd m (by decide +kernel)
  · exact absurd m (by decide +kernel)
  · exact absurd rfl m
theorem FlA.c2 {code : Str} {fs : List (Str × V)} {ws : List V} (h : FlA code fs ws) (e : code ∈ atC) : ∃ v, fs.lookup ("at" : Str) = some v ∧ ws = [v] := by
  rcases h with ⟨m, _⟩ | ⟨_, h⟩ | ⟨m, _⟩ | ⟨m, _⟩ | ⟨m, _⟩ | ⟨_, m, _⟩
  · rw [m] at e; exact absurd e (by decide +kernel)
  · exact h
  · exact absurd m ((by decide +kernel : ∀ c ∈ atC, c ∉ nameC) code e)
  · rw [m] at e; exact absurd e (by decide +kernel)
  · rw [m] at e; exact absurd e (by decide +kernel)
  · exact absurd e m
theorem FlA.c3 {code : Str} {fs : List (Str × V)} {ws : List V} (h : FlA code fs ws) (e : code ∈ nameC) : ∃ v, fs.lookup ("name" : Str) = some v ∧ ws = [v] := by
  rcases h with ⟨m, _⟩ | ⟨m, _⟩ | ⟨_, h⟩ | ⟨m, _⟩ | ⟨m, _⟩ | ⟨_, _, m, _⟩
  · rw [m] at e; exact absurd e (by decide +kernel)
  · exact absurd m ((by decide +kernel : ∀ c ∈ nameC, c ∉ atC) code e)
  · exact h
  · rw [m] at e; exact absurd e (by decide +kernel)
  · rw [m] at e; exact absurd e (by decide +kernel)
  · exact absurd e m
theorem FlA.c4 {code : Str} {fs : List (Str × V)} {ws : List V} (h : FlA code fs ws) (e : code = "InvalidText") : ∃ v u, fs.lookup ("line" : Str) = some v ∧ fs.lookup ("why" : Str) = some u ∧ ws = [v, u] := by
  subst e
  rcases h with ⟨m, _⟩ | ⟨m, _⟩ | ⟨m, _⟩ | ⟨_, h⟩ | ⟨m, _⟩ | ⟨_, _, _, m, _⟩
  · exact absurd m (by decide +kernel)
  · exact absurd m (by decide +kernel)
  · exact absurd m (by decide +kernel)
  · exact h
  · exact absurd m (by decide +kernel)
  · exact absurd rfl m
theorem FlA.c5 {code : Str} {fs : List (Str × V)} {ws : List V} (h : FlA code fs ws) (e : code = "TooMany") : ∃ v, fs.lookup ("most" : Str) = some v ∧ ws = [v] := by
  subst e
  rcases h with ⟨m, _⟩ | ⟨m, _⟩ | ⟨m, _⟩ | ⟨m, _⟩ | ⟨_, h⟩ | ⟨_, _, _, _, m, _⟩
  · exact absurd m (by decide +kernel)
  · exact absurd m (by decide +kernel)
  · exact absurd m (by decide +kernel)
  · exact absurd m (by decide +kernel)
  · exact h
  · exact absurd rfl m
theorem FlA.c6 {code : Str} {fs : List (Str × V)} {ws : List V} (h : FlA code fs ws) (h1 : code ≠ "InvalidName") (h2 : code ∉ atC) (h3 : code ∉ nameC) (h4 : code ≠ "InvalidText") (h5 : code ≠ "TooMany") : ws = [] := by
  rcases h with ⟨m, _⟩ | ⟨m, _⟩ | ⟨m, _⟩ | ⟨m, _⟩ | ⟨m, _⟩ | ⟨_, _, _, _, _, h⟩
  · exact absurd m h1
  · exact absurd m h2
  · exact absurd m h3
  · exact absurd m h4
  · exact absurd m h5
  · exact h
theorem dec_str {x y : Str} : decide (V.str x = V.str y) = decide (x = y) := by
  rw [Bool.eq_iff_iff, decide_eq_true_eq, decide_eq_true_eq]
  exact ⟨fun h => V.str.inj h, fun h => by rw [h]⟩
theorem fld_of {K : PySem.W.Frag} {mg : Str → Option Value} {code : Str} {fs : List (Str × V)} {C dd : Addr} {H : Hp} (E : IsExc K mg code fs (.ref C) (some dd) H) : XfC K C ∧ (∀ (f : Str) v, fs.lookup f = some v → PySem.W.findIn K (.ref C) f = some none) ∧ H dd = some (.xd fs) := by
  obtain ⟨⟨C', dd', e1, e2, T, nf, e, _⟩, _⟩ := E
  cases e1
  cases e2
  exact ⟨T, fun f v l => nf f (List.mem_map.mpr ⟨(f, v), PySem.mem_of_lookup l, rfl⟩), e⟩
section
variable {P : Program} {w : World} {K : PySem.W.Frag} {mg : Str → Option Value} {base : Heap}
theorem has_l_fields (Z : Zs mg) (A : At K mg "_law_fields" s_l_fields ["_law_e"]) : HasQ P w K mg base "_law_fields" s_l_fields 1 ["_law_e"] (spFields K mg FlA) := by
  obtain ⟨f, fd, F, mg1, bd⟩ := A
  refine ⟨f, fd, ?_, mg1, F.kp, bd, F⟩
  refine quiet_ok F sc_l_fields (fun p vs H Q E h => ?_) (fun cdv A outer s H vs Q E p hr h => ?_)
  · obtain ⟨C, dd, code, fs, ws, rfl, _⟩ := h
    rfl
  · obtain ⟨C, dd, code, fs, ws, rfl, PX, X, fl, lw, q⟩ := h
    refine ⟨_, (pss_cons (ps_if (pt_cmpR op_eq (pe_pinf (p := p) List.mem_cons_self (pv 0)) pe_str (nomark _)) (pss_one (ps_ret (pe_tup (pa_cons (pe_pinf (p := p) List.mem_cons_self (pv 0)) pa_nil)))) pss_nil) (pss_cons (ps_if (pt_cmpR op_in_seq (pe_pinf (p := p) List.mem_cons_self (pv 0)) (pe_tup (pa_cons pe_str (pa_cons pe_str (pa_cons pe_str (pa_cons pe_str pa_nil))))) (by rfl)) (pss_one (ps_ret (pe_tup (pa_cons (pe_pinf (p := p) List.mem_cons_self (pv 0)) pa_nil)))) pss_nil) (pss_cons (ps_if (pt_cmpR op_in_seq (pe_pinf (p := p) List.mem_cons_self (pv 0)) (pe_tup (pa_cons pe_str (pa_cons pe_str (pa_cons pe_str pa_nil)))) (by rfl)) (pss_one (ps_ret (pe_tup (pa_cons (pe_pinf (p := p) List.mem_cons_self (pv 0)) pa_nil)))) pss_nil) (pss_cons (ps_if (pt_cmpR op_eq (pe_pinf (p := p) List.mem_cons_self (pv 0)) pe_str (nomark _)) (pss_one (ps_ret (pe_tup (pa_cons (pe_pinf (p := p) List.mem_cons_self (pv 0)) (pa_cons (pe_pinf (p := p) List.mem_cons_self (pv 0)) pa_nil))))) pss_nil) (pss_one (ps_ret (pe_ifExp (pt_cmpR op_eq (pe_pinf (p := p) List.mem_cons_self (pv 0)) pe_str (nomark _)) (pe_tup (pa_cons (pe_pinf (p := p) List.mem_cons_self (pv 0)) pa_nil)) (pe_tup pa_nil)))))))), ?_⟩
    obtain ⟨T, nf, ed⟩ := fld_of X
    have lc := X.code
    have hin : ∀ (xs : List Str), inV (V.str code) (xs.map V.str) = decide (code ∈ xs) := fun xs => inS code xs
    have s0 := Same.refl H
    refine ⟨_, rfl, rfl, C, dd, fs, _, PX, T, nf _ _ lc, ed, lc, rfl, _, rfl, ?_⟩
    rw [dec_str]
    refine ite2 (fun c1 => ?_) (fun c1 => ?_)
    · obtain ⟨v, l, rfl⟩ := fl.c1 (of_decide_eq_true c1)
      exact ⟨_, rfl, rfl, C, dd, fs, _, PX, T, nf _ _ l, ed, l, (by show 1 ≤ sizeLine; decide), fun r nr => q r _ (s0.trans (same_new nr)) (s0.free nr) upd_same⟩
    have e1 : code ≠ "InvalidName" := fun z => c1 (decide_eq_true z)
    refine ⟨_, rfl, rfl, C, dd, fs, _, PX, T, nf _ _ lc, ed, lc, (by show 4 ≤ sizeLine; decide), fun t1 n1 => ⟨t1, _, rfl, .inr (.inl (.inl upd_same)), rfl, rfl, _, rfl, ?_⟩⟩
    have s1 := same_new (o := .tup (atC.map V.str)) n1
    rw [if_neg Bool.false_ne_true, show inV (V.str code) [V.str "InvalidLot", V.str "InvalidFind", V.str "InvalidWord", V.str "InvalidFact"] = decide (code ∈ atC) from hin atC]
    refine ite2 (fun c2 => ?_) (fun c2 => ?_)
    · obtain ⟨v, l, rfl⟩ := fl.c2 (of_decide_eq_true c2)
      exact ⟨_, rfl, rfl, C, dd, fs, _, PX, T, nf _ _ l, s1 _ _ ed, l, (by show 1 ≤ sizeLine; decide), fun r nr => q r _ (s1.trans (same_new nr)) (s1.free nr) upd_same⟩
    have e2 : code ∉ atC := fun z => c2 (decide_eq_true z)
    refine ⟨_, rfl, rfl, C, dd, fs, _, PX, T, nf _ _ lc, s1 _ _ ed, lc, (by show 3 ≤ sizeLine; decide), fun t2 n2 => ⟨t2, _, rfl, .inr (.inl (.inl upd_same)), rfl, rfl, _, rfl, ?_⟩⟩
    have s2 := s1.trans (same_new (o := .tup (nameC.map V.str)) n2)
    rw [if_neg Bool.false_ne_true, show inV (V.str code) [V.str "DuplicateName", V.str "UnknownName", V.str "UnknownFind"] = decide (code ∈ nameC) from hin nameC]
    refine ite2 (fun c3 => ?_) (fun c3 => ?_)
    · obtain ⟨v, l, rfl⟩ := fl.c3 (of_decide_eq_true c3)
      exact ⟨_, rfl, rfl, C, dd, fs, _, PX, T, nf _ _ l, s2 _ _ ed, l, (by show 1 ≤ sizeLine; decide), fun r nr => q r _ (s2.trans (same_new nr)) (s2.free nr) upd_same⟩
    have e3 : code ∉ nameC := fun z => c3 (decide_eq_true z)
    refine ⟨_, rfl, rfl, C, dd, fs, _, PX, T, nf _ _ lc, s2 _ _ ed, lc, rfl, _, rfl, ?_⟩
    rw [dec_str]
    refine ite2 (fun c4 => ?_) (fun c4 => ?_)
    · obtain ⟨v, u, l, l2, rfl⟩ := fl.c4 (of_decide_eq_true c4)
      exact ⟨_, rfl, rfl, C, dd, fs, _, PX, T, nf _ _ l, s2 _ _ ed, l, _, rfl, rfl, C, dd, fs, _, PX, T, nf _ _ l2, s2 _ _ ed, l2, (by show 2 ≤ sizeLine; decide), fun r nr => q r _ (s2.trans (same_new nr)) (s2.free nr) upd_same⟩
    have e4 : code ≠ "InvalidText" := fun z => c4 (decide_eq_true z)
    refine ⟨_, rfl, rfl, C, dd, fs, _, PX, T, nf _ _ lc, s2 _ _ ed, lc, rfl, _, rfl, ?_⟩
    rw [dec_str]
    refine ite2 (fun c5 => ?_) (fun c5 => ?_)
    · obtain ⟨v, l, rfl⟩ := fl.c5 (of_decide_eq_true c5)
      exact ⟨_, rfl, rfl, C, dd, fs, _, PX, T, nf _ _ l, s2 _ _ ed, l, (by show 1 ≤ sizeLine; decide), fun r nr => q r _ (s2.trans (same_new nr)) (s2.free nr) upd_same⟩
    · have e5 : code ≠ "TooMany" := fun z => c5 (decide_eq_true z)
      have ew := fl.c6 e1 e2 e3 e4 e5
      subst ew
      exact ⟨Nat.zero_le _, fun r nr => q r _ (s2.trans (same_new nr)) (s2.free nr) upd_same⟩
end
end Th
namespace Th
open PySem PySem.Spec PyProof.Rows L2
abbrev s_l_try : Stmt := topS 30
theorem sc_l_try : FnScope ["_law_ask", "_law_e"] ["_law_ask"] (defScope s_l_try) := ⟨rfl, rfl, rfl, by decide +kernel, rfl, by decide +kernel, by decide +kernel⟩

theorem gives_l_try {X : Cx} {c1 c2 : Addr} (hr : Room 4 X.A) (hm1 : X.mg "FindError" = some (.ref c1)) (hm2 : X.mg "Missing" = some (.ref c2)) (h_l_fields : HasQ X.prog X.w X.K X.mg X.base "_law_fields" s_l_fields 1 ["_law_e"] (spFields X.K X.mg FlA)) {g : Addr} {cdg : Value} {q : Str} :
    LamX.GivesTo X ["_law_ask", "_law_e"] "_law_try" (defScope s_l_try) g cdg (defBody s_l_try) "_law_ask" q (TTry X.K X.mg FlA) := by
  obtain ⟨f_l_fields, fd_l_fields, G_l_fields, m_l_fields, k_l_fields, b_l_fields, F_l_fields⟩ := h_l_fields
  intro f c' s H Q tl act hc h
  have hrq : Room 1 (X.A.deeper (envOfC "_law_try" (defScope s_l_try) s.heap.objs.size g cdg)) := (hr.deeper _).mono (by decide)
  refine ⟨_, pss_one (ps_try_two (i := 1)
      (tb := fun W D σ H => ∃ Ech : XK, (∀ cls d σ' H', Ech cls d H' → W cls d σ' H') ∧ σ[0]? = some (some (.ref f)) ∧ H c' = some (LamX.CodeO c' q) ∧ tl Ech H fun v H1 => ([.str "told", v] : List V).length ≤ sizeLine ∧ ∀ p, H1 p = none → D.rt (.ref p) (upd H1 p (.tup [.str "told", v])))
      (ts := fun a cls d => tRet (tOp (rCatT X.K) (tTup (tCons (tC (.str "no")) (tCons (tPinA X.K 1 a cls d "code") tNil))) (tFieldsA X.K X.mg FlA 1 a cls d)))
      rfl rfl sc_l_try.nd rfl rfl (by rfl) (by decide) hm1 (by rfl) (by decide) hm2 (fun W pn xe tk => ?_) (fun a oe cls d pn hz hf => ?_)), ?_⟩
  · refine ⟨fun pins s' σ H' D I h' => ?_⟩
    obtain ⟨Ech, hW, h1, h2, h3⟩ := h'
    exact (pss_one (ps_ret (pe_tup (pa_cons pe_str (pa_cons (act W pn xe Ech _ _ tk hW) pa_nil))))).run pins s' σ H' D I ⟨h1, h2, h3⟩
  · exact pss_one (ps_ret (pe_op op_catT (pe_tup (pa_cons pe_str (pa_cons (pe_pinA (i := 1) List.mem_cons_self hz hf (pv 1)) pa_nil)))
        (pe_fieldsA (i := 1) List.mem_cons_self hz hf G_l_fields ⟨hrq.dp, hrq.un⟩ (by rfl) m_l_fields k_l_fields b_l_fields (pa_cons (pv 1) pa_nil))))
  · refine ⟨_, fun cls d σ' H' hE => ?_, rfl, hc, h⟩
    obtain ⟨code, fs, ws, X1, fl, lw, hq⟩ := hE
    obtain ⟨C, dd, rfl, rfl, T, nf, ed, ca⟩ := X1.ex
    have l1 : fs.lookup ("code" : Str) = some (V.str code) := X1.code
    refine ⟨ca c1 c2 hm1 hm2, fun a na hl => ?_⟩
    have at1 : (σ'.set 1 (some (V.ref a)))[1]? = some (some (V.ref a)) := List.getElem?_set_self hl
    refine ⟨at1, C, dd, fs, _, rfl, rfl, T, nf _ (List.mem_map.mpr ⟨_, PySem.mem_of_lookup l1, rfl⟩), ed, l1, (by show 2 ≤ sizeLine; decide), fun r nr => ?_⟩
    have s1 := same_new (o := .tup [.str "no", .str code]) nr
    have X2 : IsExc X.K X.mg code fs (.ref C) (some dd) (upd H' r (.tup [.str "no", .str code])) := ⟨⟨C, dd, rfl, rfl, T, nf, s1 _ _ ed, ca⟩, l1⟩
    refine ⟨at1, C, dd, code, fs, ws, rfl, rfl, X2, fl, lw, fun u H2 s2 nu eu => ?_⟩
    have er : H2 r = some (.tup [.str "no", .str code]) := s2 _ _ upd_same
    refine ⟨r, u, [.str "no", .str code], ws, rfl, rfl, .inl (.inl er), .inl (.inl eu), (fun z => nomatch z), ?_, fun e => ?_, fun ne z nz => ?_⟩
    · have := sizeLine_eq
      show 2 + ws.length ≤ sizeLine
      omega
    · subst e
      exact hq r H2 (s1.trans s2) nr er
    · exact hq z _ ((s1.trans s2).trans (same_new nz)) ((s1.trans s2).free nz) upd_same
end Th
namespace Th
open PySem PySem.Spec PyProof.Rows L2
abbrev s_p_law : Stmt := topS 40
theorem sc_p_law : FnScope ["_law_script", "_law_state", "_law_pool", "_law_turn", "_law_p", "_law_q", "_law_some", "_law_given", "_law_due", "_law_told", "_law_late", "_law_x"] ["_law_script"] (defScope s_p_law) := ⟨rfl, rfl, rfl, by decide +kernel, rfl, by decide +kernel, by decide +kernel⟩
structure W2 (D : DS) (PL : Addr) (xs : List Str) (T : List (Addr × Str)) (H : Hp) : Prop where
  d : Drw D H
  pl : H PL = some (.lst (xs.map V.str))
  tb : LamX.Tabs T H
section
variable {D : DS} {PL : Addr} {xs : List Str} {T : List (Addr × Str)} {H H' : Hp}
theorem W2.go (w : W2 D PL xs T H) (p1 : PL ≠ D.p) (g : Go D H H') : W2 D PL xs T H' := by
  obtain ⟨d, pl, tb⟩ := w
  exact ⟨g.st, g.old p1 pl, Tabs.go tb d g⟩
theorem W2.sm (w : W2 D PL xs T H) (s : Same H H') : W2 D PL xs T H' := by
  obtain ⟨d, pl, tb⟩ := w
  exact ⟨(Go.of d s).st, s _ _ pl, Tabs.sm tb s⟩
theorem W2.ext (w : W2 D PL xs T H) (e : LamX.ExtN H H') (t : LamX.Tabs T H') : W2 D PL xs T H' := by
  obtain ⟨d, pl, tb⟩ := w
  exact ⟨(keepD_ext e).drw d, keepD_ext e _ _ pl (plain_lst _), t⟩
end
theorem once_ext {xs zs : List Str} (h : ∀ y, y ∈ xs ↔ y ∈ zs) (k : zs.Nodup) : (once [] xs).Perm zs :=
  (List.perm_ext_iff_of_nodup (once_nodup xs [] List.nodup_nil) k).mpr fun y => by
    rw [once_mem, h y]
    simp
/-- tuple(a list or a tuple) -/
def rTupO (K : PySem.W.Frag) : List V → Hp → VK → Prop := fun xs H Q => ∃ p ys, xs = [V.ref p] ∧ ((SqL K H p ys ∧ ∀ l : Addr, H l = none → Q (.ref l) (upd H l (.tup ys))) ∨ SqT K H p ys ∧ Q (.ref p) H)
def spLawT (K : PySem.W.Frag) (Pt : Addr) : Sp := fun vs H Q _ => ∃ (a : Addr) (ns : List Int), vs = [.ref a] ∧ SqL K H a (ns.map V.int) ∧ ns.length ≤ 63 ∧ H Pt = some (.tbl #[]) ∧ ∀ H', Q (.bl true) H'
section
variable {P : Program} {w : World} {K : PySem.W.Frag} {mg : Str → Option Value} {base : Heap}
theorem has_p_law {f c Pt c1 c2 : Addr} {fd : FuncData} (Z : Zs mg) (F : Fun K "law" "law" s_p_law f fd) (hc : fd.code = .ref c) (TB : LamX.TabB base mg c Pt) (hm1 : mg "FindError" = some (.ref c1)) (hm2 : mg "Missing" = some (.ref c2)) (h_l_start : Has P w K mg base "_law_start" s_l_start 1 ["_law_script", "_law_own"] (spStart K)) (h_l_draw : Has P w K mg base "_law_draw" s_l_draw 1 ["_law_state", "_law_many"] (spDraw)) (h_l_names : Has P w K mg base "_law_names" s_l_names 3 ["_law_state", "_law_many"] (spNames K)) (h_l_odd : Has P w K mg base "_law_odd" s_l_odd 3 ["_law_state"] (spOdd K)) (h_l_same : Has P w K mg base "_law_same" s_l_same 6 ["_law_got", "_law_due"] (spSm K 6)) (h_l_union : Has P w K mg base "_law_union" s_l_union 1 ["_law_p", "_law_q"] (spUnion2 K)) (h_l_two : Has P w K mg base "_law_two" s_l_two 5 ["_law_state", "_law_pool"] (spTwo K)) (h_l_pair_so : Has P w K mg base "_law_pair_so" s_l_pair_so 7 ["_law_p", "_law_q"] (spPairSo K)) (h_l_lot_due : Has P w K mg base "_law_lot_due" s_l_lot_due 3 ["_law_x"] (spLotDue K)) (h_l_listed : Has P w K mg base "_law_listed" s_l_listed 4 ["_law_state", "_law_pool"] (spListed K)) (h_p_lot_of : HasX P w K mg base "lot_of" s_p_lot_of 9 ["names"] (spLotOf K mg)) (h_l_fields : HasQ P w K mg base "_law_fields" s_l_fields 1 ["_law_e"] (spFields K mg FlA)) (A_l_try : At K mg "_law_try" s_l_try ["_law_ask"]) : FnOk P w K mg base CX0 12 f fd ["_law_script"] (spLawT K Pt) := by
  obtain ⟨f_l_start, fd_l_start, G_l_start, m_l_start, k_l_start, b_l_start, F_l_start⟩ := h_l_start
  obtain ⟨f_l_draw, fd_l_draw, G_l_draw, m_l_draw, k_l_draw, b_l_draw, F_l_draw⟩ := h_l_draw
  obtain ⟨f_l_names, fd_l_names, G_l_names, m_l_names, k_l_names, b_l_names, F_l_names⟩ := h_l_names
  obtain ⟨f_l_odd, fd_l_odd, G_l_odd, m_l_odd, k_l_odd, b_l_odd, F_l_odd⟩ := h_l_odd
  obtain ⟨f_l_same, fd_l_same, G_l_same, m_l_same, k_l_same, b_l_same, F_l_same⟩ := h_l_same
  obtain ⟨f_l_union, fd_l_union, G_l_union, m_l_union, k_l_union, b_l_union, F_l_union⟩ := h_l_union
  obtain ⟨f_l_two, fd_l_two, G_l_two, m_l_two, k_l_two, b_l_two, F_l_two⟩ := h_l_two
  obtain ⟨f_l_pair_so, fd_l_pair_so, G_l_pair_so, m_l_pair_so, k_l_pair_so, b_l_pair_so, F_l_pair_so⟩ := h_l_pair_so
  obtain ⟨f_l_lot_due, fd_l_lot_due, G_l_lot_due, m_l_lot_due, k_l_lot_due, b_l_lot_due, F_l_lot_due⟩ := h_l_lot_due
  obtain ⟨f_l_listed, fd_l_listed, G_l_listed, m_l_listed, k_l_listed, b_l_listed, F_l_listed⟩ := h_l_listed
  obtain ⟨f_p_lot_of, fd_p_lot_of, G_p_lot_of, m_p_lot_of, k_p_lot_of, b_p_lot_of, F_p_lot_of⟩ := h_p_lot_of
  obtain ⟨f_l_try, fd_l_try, F_l_try, m_l_try, b_l_try⟩ := A_l_try
  refine okC F hc sc_p_law (fun vs H Q E h => ?_) (fun A outer s H vs Q E hr h => ?_)
  · obtain ⟨a, ns, rfl, _⟩ := h
    rfl
  · obtain ⟨a, ns, rfl, hS, hlen, hPt, q⟩ := h
    have kb_p_lot_of : KBinds K fd_p_lot_of ["names"] ["names"] g1 g1 := kb_of F_p_lot_of g1_rel (fun kV doc pm an cdv ct us ws hl => by
      match us, ws, hl with
      | [], [_], _ => rfl
      | [], [], e => cases e
      | [], _ :: _ :: _, e => cases e
      | _ :: _, [], e => cases e
      | _ :: _, _ :: _, e => cases e)
    refine ⟨_, (pss_cons (ps_set (i := 1) sc_p_law.nd rfl (Or.inl rfl) (pe_call G_l_start (hr.mono (by decide)) (by rfl) m_l_start k_l_start b_l_start .nil pass0 (pa_cons (pv 0) (pa_cons pe_int pa_nil)))) (C8.pss_cut (ps_set (i := 2) sc_p_law.nd rfl (Or.inl rfl) (pe_call G_l_names (hr.mono (by decide)) (by rfl) m_l_names k_l_names b_l_names .nil pass0 (pa_cons (pv 1) (pa_cons (pe_ifExp (pt_cmpR op_eq (pe_call G_l_draw (hr.mono (by decide)) (by rfl) m_l_draw k_l_draw b_l_draw .nil pass0 (pa_cons (pv 1) (pa_cons pe_int pa_nil))) pe_int (nomark _)) pe_int (pe_op op_add pe_int (pe_call G_l_draw (hr.mono (by decide)) (by rfl) m_l_draw k_l_draw b_l_draw .nil pass0 (pa_cons (pv 1) (pa_cons pe_int pa_nil))))) pa_nil)))) (pss_cons (ps_for PassesOwn.never rfl (pi_range1 (by rfl) Z.range_ (pa_cons pe_int pa_nil)) (pg_name (i := 3) sc_p_law.nd rfl (Or.inl rfl)) (pss_cons (ps_asg (pe_call G_l_two (hr.mono (by decide)) (by rfl) m_l_two k_l_two b_l_two .nil pass0 (pa_cons (pv 1) (pa_cons (pv 2) pa_nil))) (pg_tup (by rfl) (pgs_cons (pg_name (i := 4) sc_p_law.nd rfl (Or.inl rfl)) (pgs_cons (pg_name (i := 5) sc_p_law.nd rfl (Or.inl rfl)) pgs_nil)))) (pss_cons (ps_if (PW.pt (pw_or (pt_not (pt_val (pe_call G_l_pair_so (hr.mono (by decide)) (by rfl) m_l_pair_so k_l_pair_so b_l_pair_so .nil pass0 (pa_cons (pv 4) (pa_cons (pv 5) pa_nil))))) (pw_or (pt_not (pt_val (pe_call G_l_pair_so (hr.mono (by decide)) (by rfl) m_l_pair_so k_l_pair_so b_l_pair_so .nil pass0 (pa_cons (pv 5) (pa_cons (pv 4) pa_nil))))) (pw_or1 (pt_not (pt_val (pe_call G_l_pair_so (hr.mono (by decide)) (by rfl) m_l_pair_so k_l_pair_so b_l_pair_so .nil pass0 (pa_cons (pv 4) (pa_cons (pv 4) pa_nil))))))))) (pss_one (ps_ret pe_bl)) pss_nil) (pss_one (ps_if (pt_not (pt_val (pe_call G_l_same (hr.mono (by decide)) (by rfl) m_l_same k_l_same b_l_same .nil pass0 (pa_cons (pe_call G_p_lot_of (hr.mono (by decide)) (by rfl) m_p_lot_of k_p_lot_of b_p_lot_of .nil passF (pa_cons (pe_op op_cat (pe_revL (pe_callTy call_list_of (by rfl) Z.list_ (by decide +kernel) (pa_cons (pv 4) pa_nil))) (pe_callTy call_list_of (by rfl) Z.list_ (by decide +kernel) (pa_cons (pv 5) pa_nil))) pa_nil)) (pa_cons (pe_call G_l_union (hr.mono (by decide)) (by rfl) m_l_union k_l_union b_l_union .nil pass0 (pa_cons (pv 4) (pa_cons (pv 5) pa_nil))) pa_nil))))) (pss_one (ps_ret pe_bl)) pss_nil))))) (pss_cons (ps_for PassesOwn.never rfl (pi_range1 (by rfl) Z.range_ (pa_cons pe_int pa_nil)) (pg_name (i := 3) sc_p_law.nd rfl (Or.inl rfl)) (pss_cons (ps_set (i := 6) sc_p_law.nd rfl (Or.inr rfl) (pe_call G_l_listed (hr.mono (by decide)) (by rfl) m_l_listed k_l_listed b_l_listed .nil pass0 (pa_cons (pv 1) (pa_cons (pv 2) pa_nil)))) (pss_cons (ps_asg (pe_tup (pa_cons (pe_callTy call_list_of (by rfl) Z.list_ (by decide +kernel) (pa_cons (pv 6) pa_nil)) (pa_cons (pe_call G_l_lot_due (hr.mono (by decide)) (by rfl) m_l_lot_due k_l_lot_due b_l_lot_due .nil pass0 (pa_cons (pv 6) pa_nil)) pa_nil))) (pg_tup (by rfl) (pgs_cons (pg_name (i := 7) sc_p_law.nd rfl (Or.inr rfl)) (pgs_cons (pg_name (i := 8) sc_p_law.nd rfl (Or.inl rfl)) pgs_nil)))) (pss_cons (ps_set (i := 9) sc_p_law.nd rfl (Or.inl rfl) (pe_try F_l_try m_l_try b_l_try (by rfl) sc_l_try rfl (.inl rfl) (fun _ => gives_l_try (hr.mono (by decide)) hm1 hm2 h_l_fields) TB rfl hr (show LamX.LamS (defScope s_p_law) _ from LamX.lamS_by (by decide +kernel)) rfl (fun _ _ _ _ _ => rfl) (fun A outer s H E f c' hr' => by exact (pe_call G_p_lot_of (hr'.mono (by decide)) (by rfl) m_p_lot_of k_p_lot_of b_p_lot_of .nil (passes_call (takes_of rfl rfl rfl rfl) fun _ _ _ _ h => h) (pa_cons (pv 7) pa_nil))))) (pss_cons (ps_set (i := 10) sc_p_law.nd rfl (Or.inl rfl) (pe_try F_l_try m_l_try b_l_try (by rfl) sc_l_try rfl (.inl rfl) (fun _ => gives_l_try (hr.mono (by decide)) hm1 hm2 h_l_fields) TB rfl hr (show LamX.LamS (defScope s_p_law) _ from LamX.lamS_by (by decide +kernel)) rfl (fun _ _ _ _ _ => rfl) (fun A outer s H E f c' hr' => by exact (pe_callK0 G_p_lot_of (hr'.mono (by decide)) (by rfl) m_p_lot_of k_p_lot_of kb_p_lot_of (passes_call (takes_of rfl rfl rfl rfl) fun _ _ _ _ h => h) (pk_cons (pe_callTy (show CallR _ (.type "tuple") (rTupO K) from call_tuple_of) (by rfl) Z.tuple_ (by decide +kernel) (pa_cons (pv 6) pa_nil)) pk_nil))))) (pss_cons (ps_if (pt_not (pt_val (pe_call G_l_same (hr.mono (by decide)) (by rfl) m_l_same k_l_same b_l_same .nil pass0 (pa_cons (pe_lst (pa_cons (pv 9) (pa_cons (pv 10) (pa_cons (pv 7) pa_nil)))) (pa_cons (pe_lst (pa_cons (pv 8) (pa_cons (pv 8) (pa_cons (pv 6) pa_nil)))) pa_nil))))) (pss_one (ps_ret pe_bl)) pss_nil) (pss_cons (ps_set (i := 11) sc_p_law.nd rfl (Or.inr rfl) (pe_call G_l_odd (hr.mono (by decide)) (by rfl) m_l_odd k_l_odd b_l_odd .nil pass0 (pa_cons (pv 1) pa_nil))) (pss_one (ps_if (pt_not (pt_val (pe_call G_l_same (hr.mono (by decide)) (by rfl) m_l_same k_l_same b_l_same .nil pass0 (pa_cons (pe_try F_l_try m_l_try b_l_try (by rfl) sc_l_try rfl (.inl rfl) (fun _ => gives_l_try (hr.mono (by decide)) hm1 hm2 h_l_fields) TB rfl hr (show LamX.LamS (defScope s_p_law) _ from LamX.lamS_by (by decide +kernel)) rfl (fun _ _ _ _ _ => rfl) (fun A outer s H E f c' hr' => by exact (pe_call G_p_lot_of (hr'.mono (by decide)) (by rfl) m_p_lot_of k_p_lot_of b_p_lot_of .nil (passes_call (takes_of rfl rfl rfl rfl) fun _ _ _ _ h => h) (pa_cons (pv 11) pa_nil)))) (pa_cons (pe_call G_l_lot_due (hr.mono (by decide)) (by rfl) m_l_lot_due k_l_lot_due b_l_lot_due .nil pass0 (pa_cons (pv 11) pa_nil)) pa_nil))))) (pss_one (ps_ret pe_bl)) pss_nil))))))))) (pss_one (ps_ret pe_bl)))))), ?_⟩
    refine ⟨_, rfl, a, ns, 120330227, rfl, hS, hlen, by decide, by decide, fun H1 D s1 np nl d => ?_⟩
    refine ⟨fun σ H => ∃ (PL : Addr) (xs : List Str), σ = [some (.ref a), some (.ref D.p), some (.ref PL), none, none, none, none, none, none, none, none, none] ∧ Nms xs ∧ 0 < xs.length ∧ xs.length ≤ 40 ∧ PL ≠ D.p ∧ H PL = some (.lst (xs.map V.str)) ∧ Go D H1 H, ?_, ?_⟩
    · refine ⟨_, rfl, _, rfl, D, 9, rfl, d, by decide, by decide, fun r H6 r0 r1 g6 => ⟨rfl, _, rfl, ite2 (fun _ => ?_) (fun _ => ?_)⟩⟩
      · exact ⟨D, 40, rfl, g6.st, by decide, by decide, fun PL xs H7 nms eln nPL ePL g7 => ⟨PL, xs, rfl, nms, by omega, by omega, g6.st.ne_new nPL, ePL, g6.trans g7⟩⟩
      · refine ⟨_, rfl, D, 12, rfl, g6.st, by decide, by decide, fun r2 H6b r20 r21 g6b => ⟨_, _, rfl, rfl, D, _, rfl, g6b.st, by omega, by omega, fun PL xs H7 nms eln nPL ePL g7 => ⟨PL, xs, rfl, nms, by omega, by omega, g6b.st.ne_new nPL, ePL, (g6.trans g6b).trans g7⟩⟩⟩
    rintro σ H7 ⟨PL, xs, rfl, nms, l0, l40, pPL, ePL, g7⟩
    have tb0 : LamX.Tabs [(Pt, (envOfC "law" (defScope s_p_law) s.heap.objs.size f (.ref c)).qual ++ "<lambda>")] H1 := fun p hp => by
      rw [List.mem_singleton.mp hp]
      exact LamX.TabS.nil (s1 _ _ hPt)
    have w : W2 D PL xs [(Pt, (envOfC "law" (defScope s_p_law) s.heap.objs.size f (.ref c)).qual ++ "<lambda>")] H7 := ⟨g7.st, ePL, Tabs.go tb0 d g7⟩
    generalize hT : [(Pt, (envOfC "law" (defScope s_p_law) s.heap.objs.size f (.ref c)).qual ++ "<lambda>")] = T at w
    clear tb0 g7 ePL
    -- two lots
    refine ⟨8, rfl, by decide, by decide, for_range (lo := 0) (n := 8) (fun i σ H9 => ∃ y3 y4 y5 y6 y7 y8 y9 y10 y11 : Option V, σ = [some (.ref a), some (.ref D.p), some (.ref PL), y3, y4, y5, y6, y7, y8, y9, y10, y11] ∧ W2 D PL xs T H9) ⟨_, _, _, _, _, _, _, _, _, rfl, w⟩ ?_ ?_⟩
    · clear w
      rintro i σ H9 hi ⟨y3, y4, y5, y6, y7, y8, y9, y10, y11, rfl, w⟩
      refine ⟨_, rfl, _, rfl, D, PL, xs, rfl, w.d, sqh pPL w.pl, l0, by omega, nms.2, nms.1, fun r A1 B1 ps qs H10 lp lq pA pB eA eB er g1 => ?_⟩
      have w1 := w.go pPL g1
      refine ⟨r, _, rfl, .inl (.inl er), rfl, _, _, rfl, _, _, rfl, rfl, ?_⟩
      clear er g1 w
      have np : ∀ x ∈ ps, isNm x = true := fun x hx => nms.2 x (lp.sub x hx)
      have nq : ∀ x ∈ qs, isNm x = true := fun x hx => nms.2 x (lq.sub x hx)
      have k1 := lp.len
      have k2 := lq.len
      have un1 := nd_len (un_nd lp.nd lq.nd) (un_sub lp.sub lq.sub)
      have un2 := nd_len (un_nd lq.nd lp.nd) (un_sub lq.sub lp.sub)
      have un3 := nd_len (un_nd lp.nd lp.nd) (un_sub lp.sub lp.sub)
      refine ⟨_, rfl, _, rfl, A1, B1, ps, qs, rfl, .inl (.inl eA), .inl (.inl eB), by omega, by omega, by omega, np, nq, lp.nd, lq.nd, fun H11 s1 => ⟨_, rfl, iteF ?_⟩⟩
      refine ⟨_, rfl, _, rfl, B1, A1, qs, ps, rfl, .inl (.inl (s1 _ _ eB)), .inl (.inl (s1 _ _ eA)), by omega, by omega, by omega, nq, np, lq.nd, lp.nd, fun H12 s2 => ⟨_, rfl, iteF ?_⟩⟩
      have s12 := s1.trans s2
      refine ⟨_, rfl, _, rfl, A1, A1, ps, ps, rfl, .inl (.inl (s12 _ _ eA)), .inl (.inl (s12 _ _ eA)), by omega, by omega, by omega, np, np, lp.nd, lp.nd, fun H13 s3 => ⟨_, rfl, iteF ?_⟩⟩
      have s13 := s12.trans s3
      have w2 := w1.sm s13
      have eA2 := s13 _ _ eA
      have eB2 := s13 _ _ eB
      clear s1 s2 s3 s12 s13 eA eB w1
      refine ⟨_, rfl, A1, _, rfl, .inr (.inl (.inl eA2)), fun L1 n1 => ?_⟩
      have t1 := same_new (o := .lst (ps.map V.str)) n1
      refine ⟨L1, _, rfl, .inl (.inl upd_same), fun L2 n2 => ?_⟩
      have t2 := t1.trans (same_new (o := .lst (ps.map V.str).reverse) n2)
      have e2 : (upd (upd H13 L1 (.lst (ps.map V.str))) L2 (.lst (ps.map V.str).reverse)) L2 = some (.lst (ps.map V.str).reverse) := upd_same
      generalize upd (upd H13 L1 (.lst (ps.map V.str))) L2 (.lst (ps.map V.str).reverse) = H14 at t2 e2 ⊢
      refine ⟨_, rfl, B1, _, rfl, .inr (.inl (.inl (t2 _ _ eB2))), fun L3 n3 => ?_⟩
      have t3 := t2.trans (same_new (o := .lst (qs.map V.str)) n3)
      have e23 := (same_new (o := .lst (qs.map V.str)) n3) _ _ e2
      refine ⟨L2, L3, _, _, rfl, rfl, e23, upd_same, sline (by rw [List.length_reverse, List.length_map, List.length_map]; omega), fun L4 n4 => ?_⟩
      have t4 := t3.trans (same_new (o := .lst ((ps.map V.str).reverse ++ qs.map V.str)) n4)
      have e4 : (upd (upd H14 L3 (.lst (qs.map V.str))) L4 (.lst ((ps.map V.str).reverse ++ qs.map V.str))) L4 = some (.lst ((ps.reverse ++ qs).map V.str)) := by rw [upd_same, List.map_append, List.map_reverse]
      generalize upd (upd H14 L3 (.lst (qs.map V.str))) L4 (.lst ((ps.map V.str).reverse ++ qs.map V.str)) = H15 at t4 e4 ⊢
      have eA4 := t4 _ _ eA2
      have eB4 := t4 _ _ eB2
      have w4 := w2.sm t4
      clear t1 t2 t3 e2 e23 n1 n2 n3 n4 eA2 eB2
      have nmr : ∀ x ∈ ps.reverse ++ qs, isNm x = true := fun x hx => by
        rcases List.mem_append.mp hx with m | m
        · exact np x (List.mem_reverse.mp m)
        · exact nq x m
      have rne : ps.reverse ++ qs ≠ [] := fun z => lq.ne (List.append_eq_nil_iff.mp z).2
      have unp : (once [] (ps.reverse ++ qs)).Perm (ps ++ qs.filter fun x => !decide (x ∈ ps)) := once_ext (fun y => by
        rw [List.mem_append, List.mem_append, List.mem_reverse, List.mem_filter]
        constructor
        · intro z
          rcases z with z | z
          · exact .inl z
          · by_cases m : y ∈ ps
            · exact .inl m
            · exact .inr ⟨z, by simp [m]⟩
        · intro z
          rcases z with z | z
          · exact .inl z
          · exact .inr z.1) (un_nd lp.nd lq.nd)
      refine ⟨.ref L4, .list ((ps.reverse ++ qs).map .str), rfl, Da.newL e4 (DaAll.strs _), fun ds e => ?_, fun ys he ne nm => ⟨?_, fun r2 us H16 pu su s5 n5 e5 => ?_⟩, fun i hb => ?_⟩
      · cases e
        rw [List.length_map, List.length_append, List.length_reverse]
        exact ⟨by omega, lv_names nmr 4⟩
      · have ey : ps.reverse ++ qs = ys := map_str_inj (Option.some.inj he)
        rw [← ey, unp.length_eq]
        omega
      · have ey : ps.reverse ++ qs = ys := map_str_inj (Option.some.inj he)
        subst ey
        refine ⟨_, rfl, _, rfl, A1, B1, ps, qs, rfl, .inl (.inl (s5 _ _ eA4)), .inl (.inl (s5 _ _ eB4)), by omega, by omega, by omega, fun r3 vs H17 pv sv s6 n6 e6 => ?_⟩
        have ev : us = vs := sorted_one (pu.trans (unp.trans pv.symm)) (sorted_pair su) (sorted_pair sv)
        subst ev
        refine ⟨.ref r2, .ref r3, .tuple (us.map .str), rfl, Da.newT (s6 _ _ e5) (DaAll.strs _), Da.newT e6 (DaAll.strs _), lv_lot (n := 4) (fun x hx => ?_) (by rw [pu.length_eq, unp.length_eq]; omega), fun H18 s7 => ⟨_, rfl, iteF ⟨_, _, _, _, _, _, _, _, _, rfl, w4.sm (s5.trans (s6.trans s7))⟩⟩⟩
        rcases List.mem_append.mp (pv.mem_iff.mp hx) with m | m
        · exact np x m
        · exact nq x (List.mem_filter.mp m).1
      · rw [bad_nm (d := .list ((ps.reverse ++ qs).map .str)) rfl rne nmr] at hb
        cases hb
    rintro σ H9 ⟨y3, y4, y5, y6, y7, y8, y9, y10, y11, rfl, w⟩
    -- lots asked
    refine ⟨6, rfl, by decide, by decide, for_range (lo := 0) (n := 6) (fun i σ H9 => ∃ y3 y4 y5 y6 y7 y8 y9 y10 y11 : Option V, σ = [some (.ref a), some (.ref D.p), some (.ref PL), y3, y4, y5, y6, y7, y8, y9, y10, y11] ∧ W2 D PL xs T H9) ⟨_, _, _, _, _, _, _, _, _, rfl, w⟩ ?_ ?_⟩
    · clear w
      rintro i σ H9 hi ⟨y3, y4, y5, y6, y7, y8, y9, y10, y11, rfl, w⟩
      -- the lambdas, tried
      have asks : ∀ (j : Nat) (v : V) (d : PyData) (H15 : Hp) (σ15 : List (Option V)) (Q15 : VK), σ15[j]? = some (some v) → W2 D PL xs T H15 → Da K H15 v d → Lv 5 d →
          (∀ u r H16, Due d u → W2 D PL xs T H16 → KeepD H15 H16 → Da K H16 (.ref r) u → Q15 (.ref r) H16) →
          LamX.tLam T (TTry K mg FlA) (fun E => tCall (spLotOf K mg) [] E (tCons (tVar j) tNil)) σ15 H15 Q15 := by
        intro j v d H15 σ15 Q15 hj w5 rv lv k
        refine ⟨w5.tb, fun H16 eN t6 => ?_⟩
        have w6 := w5.ext eN t6
        have rv6 := rv.kd (keepD_ext eN)
        refine ⟨_, hj, v, d, rfl, rv6, fun ds e => ⟨by have := (lv_items lv ds e).1; omega, (lv_items lv ds e).2⟩, fun xs hi ne nm => ⟨?_, fun r ys H17 py sy s7 nr er => ?_⟩, fun i hb cls dd v' H17 s7 ex rv' => ?_⟩
        · have := (lv_items lv _ hi).1
          rw [List.length_map] at this
          have ol := once_length xs []
          simp at ol
          omega
        · refine ⟨by show 2 ≤ sizeLine; decide, fun r2 nr2 => ?_⟩
          have s8 := same_new (o := .tup [.str "told", .ref r]) nr2
          exact k _ r2 _ (.inr ⟨xs, ys, hi, ne, nm, py, sy, rfl⟩) ((w6.sm s7).sm s8) ((keepD_ext eN).trans ((KeepD.of s7).trans (KeepD.of s8))) (Da.newT upd_same (.cons (.str _) (.cons (Da.newT (s8 _ _ er) (DaAll.strs _)) .nil)))
        · refine ⟨_, _, [v'], ex, .inr (.inl ⟨by decide +kernel, v', rfl, rfl⟩), (by show 1 ≤ 1000; decide), fun r H18 s8 nr er => ?_⟩
          exact k _ r H18 (.inl ⟨i, hb, rfl⟩) ((w6.sm s7).sm s8) ((keepD_ext eN).trans ((KeepD.of s7).trans (KeepD.of s8))) (Da.newT er (.cons (.str _) (.cons (.str _) (.cons (rv'.to s8) .nil))))
      have asksT : ∀ (R : Addr) (ds : List PyData) (H15 : Hp) (σ15 : List (Option V)) (Q15 : VK), σ15[6]? = some (some (.ref R)) → W2 D PL xs T H15 → Da K H15 (.ref R) (.list ds) → Lv 5 (.list ds) →
          (∀ u r H16, Due (.tuple ds) u → W2 D PL xs T H16 → KeepD H15 H16 → Da K H16 (.ref r) u → Q15 (.ref r) H16) →
          LamX.tLam T (TTry K mg FlA) (fun E => tCallK (spLotOf K mg) g1 E tNil (tCons (tCB (rTupO K) (tCons (tVar 6) tNil)) tNil)) σ15 H15 Q15 := by
        intro R ds H15 σ15 Q15 hj w5 rv lv0 k
        refine ⟨w5.tb, fun H16 eN t6 => ?_⟩
        have w60 := w5.ext eN t6
        obtain ⟨vs, sq, al⟩ := (rv.kd (keepD_ext eN)).inL
        have lv : Lv 5 (.tuple ds) := lv0
        refine ⟨_, hj, R, vs, rfl, .inl ⟨sq, fun U nU => ?_⟩⟩
        have sU := same_new (o := .tup vs) nU
        have rv6 : Da K (upd H16 U (.tup vs)) (.ref U) (.tuple ds) := Da.newT upd_same (al.to sU)
        have w6 := w60.sm sU
        generalize upd H16 U (.tup vs) = H16b at sU rv6 w6 ⊢
        refine ⟨.ref U, .tuple ds, rfl, rv6, fun ds e => ⟨by have := (lv_items lv ds e).1; omega, (lv_items lv ds e).2⟩, fun xs hi ne nm => ⟨?_, fun r ys H17 py sy s7 nr er => ?_⟩, fun i hb cls dd v' H17 s7 ex rv' => ?_⟩
        · have := (lv_items lv _ hi).1
          rw [List.length_map] at this
          have ol := once_length xs []
          simp at ol
          omega
        · refine ⟨by show 2 ≤ sizeLine; decide, fun r2 nr2 => ?_⟩
          have s8 := same_new (o := .tup [.str "told", .ref r]) nr2
          exact k _ r2 _ (.inr ⟨xs, ys, hi, ne, nm, py, sy, rfl⟩) ((w6.sm s7).sm s8) (((keepD_ext eN).trans (KeepD.of sU)).trans ((KeepD.of s7).trans (KeepD.of s8))) (Da.newT upd_same (.cons (.str _) (.cons (Da.newT (s8 _ _ er) (DaAll.strs _)) .nil)))
        · refine ⟨_, _, [v'], ex, .inr (.inl ⟨by decide +kernel, v', rfl, rfl⟩), (by show 1 ≤ 1000; decide), fun r H18 s8 nr er => ?_⟩
          exact k _ r H18 (.inl ⟨i, hb, rfl⟩) ((w6.sm s7).sm s8) (((keepD_ext eN).trans (KeepD.of sU)).trans ((KeepD.of s7).trans (KeepD.of s8))) (Da.newT er (.cons (.str _) (.cons (.str _) (.cons (rv'.to s8) .nil))))
      refine ⟨_, rfl, _, rfl, D, PL, xs, rfl, w.d, sqh pPL w.pl, l0, by omega, nms.2, fun R ws ds H10 len lv rp eR da g1 => ?_⟩
      have w1 := w.go pPL g1
      have al := da.to hid_same
      have lvs : Lv 4 (.list ds) := ⟨by omega, lv⟩
      refine ⟨_, rfl, R, ws, rfl, .inl (.inl (.inl eR)), fun G nG => ?_⟩
      have s2 := same_new (o := .lst ws) nG
      have rG : Da K (upd H10 G (.lst ws)) (.ref G) (.list ds) := Da.newL upd_same (al.to s2)
      have rR : Da K (upd H10 G (.lst ws)) (.ref R) (.list ds) := Da.newL (s2 _ _ eR) (al.to s2)
      have w2 := w1.sm s2
      generalize upd H10 G (.lst ws) = H11 at s2 rG rR w2 ⊢
      refine ⟨_, rfl, .ref R, .list ds, rfl, rR, lvs.up, fun u ru H12 hu s3 du => ?_⟩
      have w3 := w2.sm s3
      have rG3 := rG.to s3
      have rR3 := rR.to s3
      refine ⟨by show 2 ≤ sizeLine; decide, fun t nt => ⟨t, _, rfl, .inl (.inl upd_same), rfl, _, _, rfl, _, _, rfl, rfl, ?_⟩⟩
      have s4 := same_new (o := .tup [.ref G, .ref ru]) nt
      have w4 := w3.sm s4
      have rG4 := rG3.to s4
      have rR4 := rR3.to s4
      have du4 := du.to s4
      generalize upd H12 t (.tup [.ref G, .ref ru]) = H13 at s4 w4 rG4 rR4 du4 ⊢
      clear s4 s3 s2 w1 w2 w3 rG rR rG3 rR3 du al da eR nG nt g1
      subst hT
      refine asks 7 (.ref G) (.list ds) H13 _ _ rfl w4 rG4 lvs.up fun u1 r1 H14 hu1 w5 k5 d1 => ?_
      have e1 : u = u1 := hu.one hu1
      subst e1
      refine asksT R ds H14 _ _ rfl w5 (rR4.kd k5) lvs.up fun u2 r2 H15 hu2 w6 k6 d2 => ?_
      have hu2' : Due (.list ds) u2 := hu2
      have e2 : u = u2 := hu.one hu2'
      subst e2
      have k56 := k5.trans k6
      refine ⟨_, rfl, _, rfl, _, rfl, by show 3 ≤ sizeLine; decide, fun M1 m1 => ?_⟩
      have s7 := same_new (o := .lst [.ref r1, .ref r2, .ref G]) m1
      have eM1 : (upd H15 M1 (.lst [.ref r1, .ref r2, .ref G])) M1 = some (.lst [.ref r1, .ref r2, .ref G]) := upd_same
      generalize upd H15 M1 (.lst [.ref r1, .ref r2, .ref G]) = H16 at s7 eM1 ⊢
      refine ⟨_, rfl, _, rfl, _, rfl, by show 3 ≤ sizeLine; decide, fun M2 m2 => ?_⟩
      have s8 := same_new (o := .lst [.ref ru, .ref ru, .ref R]) m2
      have s78 := s7.trans s8
      have uL := hu.lv lvs.up
      refine ⟨.ref M1, .ref M2, .list [u, u, .list ds], rfl, Da.newL (s8 _ _ eM1) (.cons ((d1.kd k6).to s78) (.cons (d2.to s78) (.cons ((rG4.kd k56).to s78) .nil))), Da.newL upd_same (.cons ((du4.kd k56).to s78) (.cons ((du4.kd k56).to s78) (.cons ((rR4.kd k56).to s78) .nil))), ⟨by show 3 ≤ 60; decide, fun x hx => ?_⟩, fun H17 s9 => ⟨_, rfl, iteF ?_⟩⟩
      · rcases List.mem_cons.mp hx with e | m
        · rw [e]; exact uL
        · rcases List.mem_cons.mp m with e | m
          · rw [e]; exact uL
          · rw [List.mem_singleton.mp m]; exact lvs
      have w7 := w6.sm (s78.trans s9)
      clear w4 w5 w6 rG4 rR4 du4 d1 d2 s7 s8 s78 s9 eM1 m1 m2
      refine ⟨_, rfl, D, rfl, w7.d, fun vx dx H18 hdx g8 rx => ?_⟩
      have w8 := w7.go pPL g8
      have lvx : Lv 4 dx := ((odds_lv dx hdx).up).up
      have rx8 := rx.to hid_same
      refine asks 11 vx dx H18 _ _ rfl w8 rx8 lvx.up fun u3 r3 H19 hu3 w9 k9 d3 => ?_
      refine ⟨_, rfl, vx, dx, rfl, rx8.kd k9, lvx.up, fun u4 r4 H20 hu4 s10 d4 => ?_⟩
      have e4 : u3 = u4 := hu3.one hu4
      subst e4
      exact ⟨.ref r3, .ref r4, u3, rfl, d3.to s10, d4, (hu3.lv lvx.up).up, fun H21 s11 => ⟨_, rfl, iteF ⟨_, _, _, _, _, _, _, _, _, rfl, w9.sm (s10.trans s11)⟩⟩⟩
    · rintro σ H9 ⟨y3, y4, y5, y6, y7, y8, y9, y10, y11, rfl, w⟩
      exact q _
end
end Th
namespace Th
open PySem PySem.Spec PyProof.Rows L2
theorem at_mk {K : PySem.W.Frag} {h : Heap} {mg : Str → Option Value} {x : Str} {st : Stmt} {ps : List Str} {f : Addr} {oc : Value} {od an : Option Addr} {osl : Array (Option Value)} {kV doc pm cdv ct : Value} (X : K.In h) (G : h.Ns mainGlobals mg)
    (a : PySem.W.nsIn K mainGlobals x = some (some (.ref f))) (l : K.lookup f = some ⟨oc, od, .func (PySem.W.fnOf x x (defArgs st) (defBody st) (defScope st) .none kV doc pm an cdv ct), osl⟩) (c : PySem.W.codeIn K cdv x = true) (k : PySem.W.keepIn K (.ref f) = true)
    (hb : ∀ (kV doc pm : Value) (an : Option Addr) (cdv ct : Value) (us : List Value), us.length = ps.length → bindArgs (PySem.W.fnOf x x (defArgs st) (defBody st) (defScope st) .none kV doc pm an cdv ct) ⟨us, []⟩ = pure (ps.zip us)) : At K mg x st ps :=
  ⟨f, _, fun_mk (st := st) l c k, PySem.W.mg_of X G a, (fun_mk (st := st) l c k).binds (ps := ps) hb⟩
theorem all_mk {l : PySem.W.OpenLaw} {w : World} {K : PySem.W.Frag} {h : Heap} {mg : Str → Option Value} {fa : Addr} (X : K.In h) (G : h.Ns mainGlobals mg) (own : LamX.OwnTab K fa h)
    {f0 : Addr} {od0 an0 : Option Addr} {sl0 : Array (Option Value)} {oc0 kV0 dc0 pm0 ct0 : Value} {cd0 : Value}
    {f1 : Addr} {od1 an1 : Option Addr} {sl1 : Array (Option Value)} {oc1 kV1 dc1 pm1 ct1 : Value} {cd1 : Value}
    {f2 : Addr} {od2 an2 : Option Addr} {sl2 : Array (Option Value)} {oc2 kV2 dc2 pm2 ct2 : Value} {cd2 : Value}
    {f3 : Addr} {od3 an3 : Option Addr} {sl3 : Array (Option Value)} {oc3 kV3 dc3 pm3 ct3 : Value} {cd3 : Value}
    {f4 : Addr} {od4 an4 : Option Addr} {sl4 : Array (Option Value)} {oc4 kV4 dc4 pm4 ct4 : Value} {cd4 : Value}
    {f5 : Addr} {od5 an5 : Option Addr} {sl5 : Array (Option Value)} {oc5 kV5 dc5 pm5 ct5 : Value} {cd5 : Value}
    {f6 : Addr} {od6 an6 : Option Addr} {sl6 : Array (Option Value)} {oc6 kV6 dc6 pm6 ct6 : Value} {cd6 : Value}
    {f7 : Addr} {od7 an7 : Option Addr} {sl7 : Array (Option Value)} {oc7 kV7 dc7 pm7 ct7 : Value} {cd7 : Value}
    {f8 : Addr} {od8 an8 : Option Addr} {sl8 : Array (Option Value)} {oc8 kV8 dc8 pm8 ct8 : Value} {cd8 : Value}
    {f9 : Addr} {od9 an9 : Option Addr} {sl9 : Array (Option Value)} {oc9 kV9 dc9 pm9 ct9 : Value} {cd9 : Value}
    {f10 : Addr} {od10 an10 : Option Addr} {sl10 : Array (Option Value)} {oc10 kV10 dc10 pm10 ct10 : Value} {cd10 : Value}
    {f11 : Addr} {od11 an11 : Option Addr} {sl11 : Array (Option Value)} {oc11 kV11 dc11 pm11 ct11 : Value} {cd11 : Value}
    {f12 : Addr} {od12 an12 : Option Addr} {sl12 : Array (Option Value)} {oc12 kV12 dc12 pm12 ct12 : Value} {cd12 : Value}
    {f13 : Addr} {od13 an13 : Option Addr} {sl13 : Array (Option Value)} {oc13 kV13 dc13 pm13 ct13 : Value} {cd13 : Value}
    {f14 : Addr} {od14 an14 : Option Addr} {sl14 : Array (Option Value)} {oc14 kV14 dc14 pm14 ct14 : Value} {cd14 : Value}
    {f15 : Addr} {od15 an15 : Option Addr} {sl15 : Array (Option Value)} {oc15 kV15 dc15 pm15 ct15 : Value} {cd15 : Value}
    {f16 : Addr} {od16 an16 : Option Addr} {sl16 : Array (Option Value)} {oc16 kV16 dc16 pm16 ct16 : Value} {cd16 : Value}
    {f17 : Addr} {od17 an17 : Option Addr} {sl17 : Array (Option Value)} {oc17 kV17 dc17 pm17 ct17 : Value} {cd17 : Value}
    {f18 : Addr} {od18 an18 : Option Addr} {sl18 : Array (Option Value)} {oc18 kV18 dc18 pm18 ct18 : Value} {cd18 : Value}
    {f19 : Addr} {od19 an19 : Option Addr} {sl19 : Array (Option Value)} {oc19 kV19 dc19 pm19 ct19 : Value} {cd19 : Value}
    {f20 : Addr} {od20 an20 : Option Addr} {sl20 : Array (Option Value)} {oc20 kV20 dc20 pm20 ct20 : Value} {cd20 : Value}
    {f21 : Addr} {od21 an21 : Option Addr} {sl21 : Array (Option Value)} {oc21 kV21 dc21 pm21 ct21 : Value} {cd21 : Value}
    {f22 : Addr} {od22 an22 : Option Addr} {sl22 : Array (Option Value)} {oc22 kV22 dc22 pm22 ct22 : Value} {cd22 : Value}
    {f23 : Addr} {od23 an23 : Option Addr} {sl23 : Array (Option Value)} {oc23 kV23 dc23 pm23 ct23 : Value} {cd23 : Value}
    {f24 : Addr} {od24 an24 : Option Addr} {sl24 : Array (Option Value)} {oc24 kV24 dc24 pm24 ct24 : Value} {cd24 : Value}
    {f25 : Addr} {od25 an25 : Option Addr} {sl25 : Array (Option Value)} {oc25 kV25 dc25 pm25 ct25 : Value} {cd25 : Value}
    {f26 : Addr} {od26 an26 : Option Addr} {sl26 : Array (Option Value)} {oc26 kV26 dc26 pm26 ct26 : Value} {cd26 : Value}
    {f27 : Addr} {od27 an27 : Option Addr} {sl27 : Array (Option Value)} {oc27 kV27 dc27 pm27 ct27 : Value} {cd27 : Value}
    {f28 : Addr} {od28 an28 : Option Addr} {sl28 : Array (Option Value)} {oc28 kV28 dc28 pm28 ct28 : Value} {cd28 : Value}
    {f29 : Addr} {od29 an29 : Option Addr} {sl29 : Array (Option Value)} {oc29 kV29 dc29 pm29 ct29 : Value} {cd29 : Value}
    {f30 : Addr} {od30 an30 : Option Addr} {sl30 : Array (Option Value)} {oc30 kV30 dc30 pm30 ct30 : Value} {cc Pt : Addr} {eC : Value} {dC : Option Addr} {vC : Array Value} {sC : Array (Option Value)}
    {b1 : Addr}
    {b2 : Addr}
    {C31 f31 : Addr} {od31 an31 : Option Addr} {sl31 : Array (Option Value)} {oc31 kV31 dc31 pm31 cd31 ct31 : Value}
    {tL : Tok}
    {tM : Tok}
    (hfa : mg "law" = some (.ref fa))
    (a0 : PySem.W.nsIn K mainGlobals "copied" = some (some (.ref f0))) (l0 : K.lookup f0 = some ⟨oc0, od0, .func (PySem.W.fnOf "copied" "copied" (defArgs s_p_copied) (defBody s_p_copied) (defScope s_p_copied) .none kV0 dc0 pm0 an0 cd0 ct0), sl0⟩) (c0 : PySem.W.codeIn K cd0 "copied" = true) (k0 : PySem.W.keepIn K (.ref f0) = true)
    (a1 : PySem.W.nsIn K mainGlobals "is_name" = some (some (.ref f1))) (l1 : K.lookup f1 = some ⟨oc1, od1, .func (PySem.W.fnOf "is_name" "is_name" (defArgs s_p_is_name) (defBody s_p_is_name) (defScope s_p_is_name) .none kV1 dc1 pm1 an1 cd1 ct1), sl1⟩) (c1 : PySem.W.codeIn K cd1 "is_name" = true) (k1 : PySem.W.keepIn K (.ref f1) = true)
    (a2 : PySem.W.nsIn K mainGlobals "lot_of" = some (some (.ref f2))) (l2 : K.lookup f2 = some ⟨oc2, od2, .func (PySem.W.fnOf "lot_of" "lot_of" (defArgs s_p_lot_of) (defBody s_p_lot_of) (defScope s_p_lot_of) .none kV2 dc2 pm2 an2 cd2 ct2), sl2⟩) (c2 : PySem.W.codeIn K cd2 "lot_of" = true) (k2 : PySem.W.keepIn K (.ref f2) = true)
    (a3 : PySem.W.nsIn K mainGlobals "are_apart" = some (some (.ref f3))) (l3 : K.lookup f3 = some ⟨oc3, od3, .func (PySem.W.fnOf "are_apart" "are_apart" (defArgs s_p_are_apart) (defBody s_p_are_apart) (defScope s_p_are_apart) .none kV3 dc3 pm3 an3 cd3 ct3), sl3⟩) (c3 : PySem.W.codeIn K cd3 "are_apart" = true) (k3 : PySem.W.keepIn K (.ref f3) = true)
    (a4 : PySem.W.nsIn K mainGlobals "overlap" = some (some (.ref f4))) (l4 : K.lookup f4 = some ⟨oc4, od4, .func (PySem.W.fnOf "overlap" "overlap" (defArgs s_p_overlap) (defBody s_p_overlap) (defScope s_p_overlap) .none kV4 dc4 pm4 an4 cd4 ct4), sl4⟩) (c4 : PySem.W.codeIn K cd4 "overlap" = true) (k4 : PySem.W.keepIn K (.ref f4) = true)
    (a5 : PySem.W.nsIn K mainGlobals "is_within" = some (some (.ref f5))) (l5 : K.lookup f5 = some ⟨oc5, od5, .func (PySem.W.fnOf "is_within" "is_within" (defArgs s_p_is_within) (defBody s_p_is_within) (defScope s_p_is_within) .none kV5 dc5 pm5 an5 cd5 ct5), sl5⟩) (c5 : PySem.W.codeIn K cd5 "is_within" = true) (k5 : PySem.W.keepIn K (.ref f5) = true)
    (a6 : PySem.W.nsIn K mainGlobals "joined" = some (some (.ref f6))) (l6 : K.lookup f6 = some ⟨oc6, od6, .func (PySem.W.fnOf "joined" "joined" (defArgs s_p_joined) (defBody s_p_joined) (defScope s_p_joined) .none kV6 dc6 pm6 an6 cd6 ct6), sl6⟩) (c6 : PySem.W.codeIn K cd6 "joined" = true) (k6 : PySem.W.keepIn K (.ref f6) = true)
    (a7 : PySem.W.nsIn K mainGlobals "common" = some (some (.ref f7))) (l7 : K.lookup f7 = some ⟨oc7, od7, .func (PySem.W.fnOf "common" "common" (defArgs s_p_common) (defBody s_p_common) (defScope s_p_common) .none kV7 dc7 pm7 an7 cd7 ct7), sl7⟩) (c7 : PySem.W.codeIn K cd7 "common" = true) (k7 : PySem.W.keepIn K (.ref f7) = true)
    (a8 : PySem.W.nsIn K mainGlobals "rest" = some (some (.ref f8))) (l8 : K.lookup f8 = some ⟨oc8, od8, .func (PySem.W.fnOf "rest" "rest" (defArgs s_p_rest) (defBody s_p_rest) (defScope s_p_rest) .none kV8 dc8 pm8 an8 cd8 ct8), sl8⟩) (c8 : PySem.W.codeIn K cd8 "rest" = true) (k8 : PySem.W.keepIn K (.ref f8) = true)
    (a9 : PySem.W.nsIn K mainGlobals "_law_start" = some (some (.ref f9))) (l9 : K.lookup f9 = some ⟨oc9, od9, .func (PySem.W.fnOf "_law_start" "_law_start" (defArgs s_l_start) (defBody s_l_start) (defScope s_l_start) .none kV9 dc9 pm9 an9 cd9 ct9), sl9⟩) (c9 : PySem.W.codeIn K cd9 "_law_start" = true) (k9 : PySem.W.keepIn K (.ref f9) = true)
    (a10 : PySem.W.nsIn K mainGlobals "_law_draw" = some (some (.ref f10))) (l10 : K.lookup f10 = some ⟨oc10, od10, .func (PySem.W.fnOf "_law_draw" "_law_draw" (defArgs s_l_draw) (defBody s_l_draw) (defScope s_l_draw) .none kV10 dc10 pm10 an10 cd10 ct10), sl10⟩) (c10 : PySem.W.codeIn K cd10 "_law_draw" = true) (k10 : PySem.W.keepIn K (.ref f10) = true)
    (a11 : PySem.W.nsIn K mainGlobals "_law_pick" = some (some (.ref f11))) (l11 : K.lookup f11 = some ⟨oc11, od11, .func (PySem.W.fnOf "_law_pick" "_law_pick" (defArgs s_l_pick) (defBody s_l_pick) (defScope s_l_pick) .none kV11 dc11 pm11 an11 cd11 ct11), sl11⟩) (c11 : PySem.W.codeIn K cd11 "_law_pick" = true) (k11 : PySem.W.keepIn K (.ref f11) = true)
    (a12 : PySem.W.nsIn K mainGlobals "_law_shuffle" = some (some (.ref f12))) (l12 : K.lookup f12 = some ⟨oc12, od12, .func (PySem.W.fnOf "_law_shuffle" "_law_shuffle" (defArgs s_l_shuffle) (defBody s_l_shuffle) (defScope s_l_shuffle) .none kV12 dc12 pm12 an12 cd12 ct12), sl12⟩) (c12 : PySem.W.codeIn K cd12 "_law_shuffle" = true) (k12 : PySem.W.keepIn K (.ref f12) = true)
    (a13 : PySem.W.nsIn K mainGlobals "_law_letters" = some (some (.ref f13))) (l13 : K.lookup f13 = some ⟨oc13, od13, .func (PySem.W.fnOf "_law_letters" "_law_letters" (defArgs s_l_letters) (defBody s_l_letters) (defScope s_l_letters) .none kV13 dc13 pm13 an13 cd13 ct13), sl13⟩) (c13 : PySem.W.codeIn K cd13 "_law_letters" = true) (k13 : PySem.W.keepIn K (.ref f13) = true)
    (a14 : PySem.W.nsIn K mainGlobals "_law_word" = some (some (.ref f14))) (l14 : K.lookup f14 = some ⟨oc14, od14, .func (PySem.W.fnOf "_law_word" "_law_word" (defArgs s_l_word) (defBody s_l_word) (defScope s_l_word) .none kV14 dc14 pm14 an14 cd14 ct14), sl14⟩) (c14 : PySem.W.codeIn K cd14 "_law_word" = true) (k14 : PySem.W.keepIn K (.ref f14) = true)
    (a15 : PySem.W.nsIn K mainGlobals "_law_names" = some (some (.ref f15))) (l15 : K.lookup f15 = some ⟨oc15, od15, .func (PySem.W.fnOf "_law_names" "_law_names" (defArgs s_l_names) (defBody s_l_names) (defScope s_l_names) .none kV15 dc15 pm15 an15 cd15 ct15), sl15⟩) (c15 : PySem.W.codeIn K cd15 "_law_names" = true) (k15 : PySem.W.keepIn K (.ref f15) = true)
    (a16 : PySem.W.nsIn K mainGlobals "_law_odd" = some (some (.ref f16))) (l16 : K.lookup f16 = some ⟨oc16, od16, .func (PySem.W.fnOf "_law_odd" "_law_odd" (defArgs s_l_odd) (defBody s_l_odd) (defScope s_l_odd) .none kV16 dc16 pm16 an16 cd16 ct16), sl16⟩) (c16 : PySem.W.codeIn K cd16 "_law_odd" = true) (k16 : PySem.W.keepIn K (.ref f16) = true)
    (a17 : PySem.W.nsIn K mainGlobals "_law_subset" = some (some (.ref f17))) (l17 : K.lookup f17 = some ⟨oc17, od17, .func (PySem.W.fnOf "_law_subset" "_law_subset" (defArgs s_l_subset) (defBody s_l_subset) (defScope s_l_subset) .none kV17 dc17 pm17 an17 cd17 ct17), sl17⟩) (c17 : PySem.W.codeIn K cd17 "_law_subset" = true) (k17 : PySem.W.keepIn K (.ref f17) = true)
    (a18 : PySem.W.nsIn K mainGlobals "_law_same" = some (some (.ref f18))) (l18 : K.lookup f18 = some ⟨oc18, od18, .func (PySem.W.fnOf "_law_same" "_law_same" (defArgs s_l_same) (defBody s_l_same) (defScope s_l_same) .none kV18 dc18 pm18 an18 cd18 ct18), sl18⟩) (c18 : PySem.W.codeIn K cd18 "_law_same" = true) (k18 : PySem.W.keepIn K (.ref f18) = true)
    (a19 : PySem.W.nsIn K mainGlobals "_law_fields" = some (some (.ref f19))) (l19 : K.lookup f19 = some ⟨oc19, od19, .func (PySem.W.fnOf "_law_fields" "_law_fields" (defArgs s_l_fields) (defBody s_l_fields) (defScope s_l_fields) .none kV19 dc19 pm19 an19 cd19 ct19), sl19⟩) (c19 : PySem.W.codeIn K cd19 "_law_fields" = true) (k19 : PySem.W.keepIn K (.ref f19) = true)
    (a20 : PySem.W.nsIn K mainGlobals "_law_try" = some (some (.ref f20))) (l20 : K.lookup f20 = some ⟨oc20, od20, .func (PySem.W.fnOf "_law_try" "_law_try" (defArgs s_l_try) (defBody s_l_try) (defScope s_l_try) .none kV20 dc20 pm20 an20 cd20 ct20), sl20⟩) (c20 : PySem.W.codeIn K cd20 "_law_try" = true) (k20 : PySem.W.keepIn K (.ref f20) = true)
    (a21 : PySem.W.nsIn K mainGlobals "_law_is_name" = some (some (.ref f21))) (l21 : K.lookup f21 = some ⟨oc21, od21, .func (PySem.W.fnOf "_law_is_name" "_law_is_name" (defArgs s_l_is_name) (defBody s_l_is_name) (defScope s_l_is_name) .none kV21 dc21 pm21 an21 cd21 ct21), sl21⟩) (c21 : PySem.W.codeIn K cd21 "_law_is_name" = true) (k21 : PySem.W.keepIn K (.ref f21) = true)
    (a22 : PySem.W.nsIn K mainGlobals "_law_both" = some (some (.ref f22))) (l22 : K.lookup f22 = some ⟨oc22, od22, .func (PySem.W.fnOf "_law_both" "_law_both" (defArgs s_l_both) (defBody s_l_both) (defScope s_l_both) .none kV22 dc22 pm22 an22 cd22 ct22), sl22⟩) (c22 : PySem.W.codeIn K cd22 "_law_both" = true) (k22 : PySem.W.keepIn K (.ref f22) = true)
    (a23 : PySem.W.nsIn K mainGlobals "_law_less" = some (some (.ref f23))) (l23 : K.lookup f23 = some ⟨oc23, od23, .func (PySem.W.fnOf "_law_less" "_law_less" (defArgs s_l_less) (defBody s_l_less) (defScope s_l_less) .none kV23 dc23 pm23 an23 cd23 ct23), sl23⟩) (c23 : PySem.W.codeIn K cd23 "_law_less" = true) (k23 : PySem.W.keepIn K (.ref f23) = true)
    (a24 : PySem.W.nsIn K mainGlobals "_law_union" = some (some (.ref f24))) (l24 : K.lookup f24 = some ⟨oc24, od24, .func (PySem.W.fnOf "_law_union" "_law_union" (defArgs s_l_union) (defBody s_l_union) (defScope s_l_union) .none kV24 dc24 pm24 an24 cd24 ct24), sl24⟩) (c24 : PySem.W.codeIn K cd24 "_law_union" = true) (k24 : PySem.W.keepIn K (.ref f24) = true)
    (a25 : PySem.W.nsIn K mainGlobals "_law_cross" = some (some (.ref f25))) (l25 : K.lookup f25 = some ⟨oc25, od25, .func (PySem.W.fnOf "_law_cross" "_law_cross" (defArgs s_l_cross) (defBody s_l_cross) (defScope s_l_cross) .none kV25 dc25 pm25 an25 cd25 ct25), sl25⟩) (c25 : PySem.W.codeIn K cd25 "_law_cross" = true) (k25 : PySem.W.keepIn K (.ref f25) = true)
    (a26 : PySem.W.nsIn K mainGlobals "_law_two" = some (some (.ref f26))) (l26 : K.lookup f26 = some ⟨oc26, od26, .func (PySem.W.fnOf "_law_two" "_law_two" (defArgs s_l_two) (defBody s_l_two) (defScope s_l_two) .none kV26 dc26 pm26 an26 cd26 ct26), sl26⟩) (c26 : PySem.W.codeIn K cd26 "_law_two" = true) (k26 : PySem.W.keepIn K (.ref f26) = true)
    (a27 : PySem.W.nsIn K mainGlobals "_law_pair_so" = some (some (.ref f27))) (l27 : K.lookup f27 = some ⟨oc27, od27, .func (PySem.W.fnOf "_law_pair_so" "_law_pair_so" (defArgs s_l_pair_so) (defBody s_l_pair_so) (defScope s_l_pair_so) .none kV27 dc27 pm27 an27 cd27 ct27), sl27⟩) (c27 : PySem.W.codeIn K cd27 "_law_pair_so" = true) (k27 : PySem.W.keepIn K (.ref f27) = true)
    (a28 : PySem.W.nsIn K mainGlobals "_law_lot_due" = some (some (.ref f28))) (l28 : K.lookup f28 = some ⟨oc28, od28, .func (PySem.W.fnOf "_law_lot_due" "_law_lot_due" (defArgs s_l_lot_due) (defBody s_l_lot_due) (defScope s_l_lot_due) .none kV28 dc28 pm28 an28 cd28 ct28), sl28⟩) (c28 : PySem.W.codeIn K cd28 "_law_lot_due" = true) (k28 : PySem.W.keepIn K (.ref f28) = true)
    (a29 : PySem.W.nsIn K mainGlobals "_law_listed" = some (some (.ref f29))) (l29 : K.lookup f29 = some ⟨oc29, od29, .func (PySem.W.fnOf "_law_listed" "_law_listed" (defArgs s_l_listed) (defBody s_l_listed) (defScope s_l_listed) .none kV29 dc29 pm29 an29 cd29 ct29), sl29⟩) (c29 : PySem.W.codeIn K cd29 "_law_listed" = true) (k29 : PySem.W.keepIn K (.ref f29) = true)
    (a30 : PySem.W.nsIn K mainGlobals "law" = some (some (.ref f30))) (l30 : K.lookup f30 = some ⟨oc30, od30, .func (PySem.W.fnOf "law" "law" (defArgs s_p_law) (defBody s_p_law) (defScope s_p_law) .none kV30 dc30 pm30 an30 (.ref cc) ct30), sl30⟩) (c30 : PySem.W.codeIn K (.ref cc) "law" = true) (k30 : PySem.W.keepIn K (.ref f30) = true)
    (lc : K.lookup cc = some ⟨eC, dC, .fields vC, sC⟩) (pc : vC[11]? = some (.ref Pt)) (np : K.lookup Pt = none) (hcd : PySem.W.codeHdIn K cc Pt = true)
    (z_len : PySem.W.nsIn K mainGlobals "len" = some none)
    (z_range : PySem.W.nsIn K mainGlobals "range" = some none)
    (z_int : PySem.W.nsIn K mainGlobals "int" = some none)
    (z_abs : PySem.W.nsIn K mainGlobals "abs" = some none)
    (z_isinstance : PySem.W.nsIn K mainGlobals "isinstance" = some none)
    (z_all : PySem.W.nsIn K mainGlobals "all" = some none)
    (z_any : PySem.W.nsIn K mainGlobals "any" = some none)
    (z_sorted : PySem.W.nsIn K mainGlobals "sorted" = some none)
    (z_set : PySem.W.nsIn K mainGlobals "set" = some none)
    (z_list : PySem.W.nsIn K mainGlobals "list" = some none)
    (z_tuple : PySem.W.nsIn K mainGlobals "tuple" = some none)
    (z_str : PySem.W.nsIn K mainGlobals "str" = some none)
    (z_bool : PySem.W.nsIn K mainGlobals "bool" = some none)
    (z_enumerate : PySem.W.nsIn K mainGlobals "enumerate" = some none)
    (z_min : PySem.W.nsIn K mainGlobals "min" = some none)
    (z_max : PySem.W.nsIn K mainGlobals "max" = some none)
    (ab1 : PySem.W.nsIn K mainGlobals "FindError" = some (some (.ref b1)))
    (ab2 : PySem.W.nsIn K mainGlobals "Missing" = some (some (.ref b2)))
    (a31 : PySem.W.nsIn K mainGlobals "InvalidLot" = some (some (.ref C31)))
    (ei31 : PySem.W.excInitIn K C31 [.type "ValueError", .type "Exception", .type "BaseException", .type "object"] "ValueError.__new__" = true)
    (eo31 : PySem.W.excOver K C31 [.type "ValueError", .type "Exception", .type "BaseException", .type "object"] = true)
    (sa31 : PySem.W.findIn K (.ref C31) "__setattr__" = some (some (.builtin "object.__setattr__")))
    (ex31 : PySem.W.subIn K (.ref C31) (.type "BaseException") = some true)
    (ty31 : PySem.W.typeIn K (.ref C31) = some (.type "type"))
    (kC31 : PySem.W.keepIn K (.ref C31) = true)
    (hd31 : PySem.W.hasDictIn K C31 = true)
    (ga31 : PySem.W.findIn K (.ref C31) "__getattribute__" = some (some (.builtin "BaseException.__getattribute__")))
    (gg31 : PySem.W.findIn K (.ref C31) "__getattr__" = some none)
    (in31 : PySem.W.findIn K (.ref C31) "__init__" = some (some (.ref f31)))
    (ti31 : PySem.W.typeIn K (.ref f31) = some (.type "function"))
    (l31 : K.lookup f31 = some ⟨oc31, od31, .func (PySem.W.fnOf "__init__" "InvalidLot.__init__" (defArgs s_c_InvalidLot_init) (defBody s_c_InvalidLot_init) (defScope s_c_InvalidLot_init) .none kV31 dc31 pm31 an31 cd31 ct31), sl31⟩) (c31 : PySem.W.codeIn K cd31 "InvalidLot.__init__" = true) (k31 : PySem.W.keepIn K (.ref f31) = true)
    (ca31 : PySem.W.exmAny K (.ref C31) [.ref b1, .ref b2] = some true)
    (nf31_0 : PySem.W.findIn K (.ref C31) "at" = some none)
    (nf31_1 : PySem.W.findIn K (.ref C31) "code" = some none)
    (xL : PySem.W.nsIn K mainGlobals "_LETTERS" = some (some (.str "abcdefghijklmnopqrstuvwxyz" tL)))
    (xM : PySem.W.nsIn K mainGlobals "_MOST_LETTERS" = some (some (.int 6 tM))) :
    LamX.LawAtS l w K CX0 12 63 "_law_script" mg fa h := by
  have e := hfa.symm.trans (PySem.W.mg_of X G a30)
  cases e
  have Z : Zs mg := ⟨PySem.W.mg_none_of X G z_len, PySem.W.mg_none_of X G z_range, PySem.W.mg_none_of X G z_int, PySem.W.mg_none_of X G z_abs, PySem.W.mg_none_of X G z_isinstance, PySem.W.mg_none_of X G z_all, PySem.W.mg_none_of X G z_any, PySem.W.mg_none_of X G z_sorted, PySem.W.mg_none_of X G z_set, PySem.W.mg_none_of X G z_list, PySem.W.mg_none_of X G z_tuple, PySem.W.mg_none_of X G z_str, PySem.W.mg_none_of X G z_bool, PySem.W.mg_none_of X G z_enumerate, PySem.W.mg_none_of X G z_min, PySem.W.mg_none_of X G z_max⟩
  have F_law := fun_mk (x := "law") (qual := "law") (st := s_p_law) l30 c30 k30
  have A_p_copied : At K mg "copied" s_p_copied ["value"] := at_mk X G a0 l0 c0 k0 fun _ _ _ _ _ _ us hl => match us, hl with | [_], _ => rfl
  have A_p_is_name : At K mg "is_name" s_p_is_name ["value"] := at_mk X G a1 l1 c1 k1 fun _ _ _ _ _ _ us hl => match us, hl with | [_], _ => rfl
  have A_p_lot_of : At K mg "lot_of" s_p_lot_of ["names"] := at_mk X G a2 l2 c2 k2 fun _ _ _ _ _ _ us hl => match us, hl with | [_], _ => rfl
  have A_p_are_apart : At K mg "are_apart" s_p_are_apart ["one", "other"] := at_mk X G a3 l3 c3 k3 fun _ _ _ _ _ _ us hl => match us, hl with | [_, _], _ => rfl
  have A_p_overlap : At K mg "overlap" s_p_overlap ["one", "other"] := at_mk X G a4 l4 c4 k4 fun _ _ _ _ _ _ us hl => match us, hl with | [_, _], _ => rfl
  have A_p_is_within : At K mg "is_within" s_p_is_within ["one", "other"] := at_mk X G a5 l5 c5 k5 fun _ _ _ _ _ _ us hl => match us, hl with | [_, _], _ => rfl
  have A_p_joined : At K mg "joined" s_p_joined ["one", "other"] := at_mk X G a6 l6 c6 k6 fun _ _ _ _ _ _ us hl => match us, hl with | [_, _], _ => rfl
  have A_p_common : At K mg "common" s_p_common ["one", "other"] := at_mk X G a7 l7 c7 k7 fun _ _ _ _ _ _ us hl => match us, hl with | [_, _], _ => rfl
  have A_p_rest : At K mg "rest" s_p_rest ["one", "other"] := at_mk X G a8 l8 c8 k8 fun _ _ _ _ _ _ us hl => match us, hl with | [_, _], _ => rfl
  have A_l_start : At K mg "_law_start" s_l_start ["_law_script", "_law_own"] := at_mk X G a9 l9 c9 k9 fun _ _ _ _ _ _ us hl => match us, hl with | [_, _], _ => rfl
  have A_l_draw : At K mg "_law_draw" s_l_draw ["_law_state", "_law_many"] := at_mk X G a10 l10 c10 k10 fun _ _ _ _ _ _ us hl => match us, hl with | [_, _], _ => rfl
  have A_l_pick : At K mg "_law_pick" s_l_pick ["_law_state", "_law_pool"] := at_mk X G a11 l11 c11 k11 fun _ _ _ _ _ _ us hl => match us, hl with | [_, _], _ => rfl
  have A_l_shuffle : At K mg "_law_shuffle" s_l_shuffle ["_law_state", "_law_pool"] := at_mk X G a12 l12 c12 k12 fun _ _ _ _ _ _ us hl => match us, hl with | [_, _], _ => rfl
  have A_l_letters : At K mg "_law_letters" s_l_letters [] := at_mk X G a13 l13 c13 k13 fun _ _ _ _ _ _ us hl => match us, hl with | [], _ => rfl
  have A_l_word : At K mg "_law_word" s_l_word ["_law_state", "_law_longest"] := at_mk X G a14 l14 c14 k14 fun _ _ _ _ _ _ us hl => match us, hl with | [_, _], _ => rfl
  have A_l_names : At K mg "_law_names" s_l_names ["_law_state", "_law_many"] := at_mk X G a15 l15 c15 k15 fun _ _ _ _ _ _ us hl => match us, hl with | [_, _], _ => rfl
  have A_l_odd : At K mg "_law_odd" s_l_odd ["_law_state"] := at_mk X G a16 l16 c16 k16 fun _ _ _ _ _ _ us hl => match us, hl with | [_], _ => rfl
  have A_l_subset : At K mg "_law_subset" s_l_subset ["_law_state", "_law_pool"] := at_mk X G a17 l17 c17 k17 fun _ _ _ _ _ _ us hl => match us, hl with | [_, _], _ => rfl
  have A_l_same : At K mg "_law_same" s_l_same ["_law_got", "_law_due"] := at_mk X G a18 l18 c18 k18 fun _ _ _ _ _ _ us hl => match us, hl with | [_, _], _ => rfl
  have A_l_fields : At K mg "_law_fields" s_l_fields ["_law_e"] := at_mk X G a19 l19 c19 k19 fun _ _ _ _ _ _ us hl => match us, hl with | [_], _ => rfl
  have A_l_try : At K mg "_law_try" s_l_try ["_law_ask"] := at_mk X G a20 l20 c20 k20 fun _ _ _ _ _ _ us hl => match us, hl with | [_], _ => rfl
  have A_l_is_name : At K mg "_law_is_name" s_l_is_name ["_law_x"] := at_mk X G a21 l21 c21 k21 fun _ _ _ _ _ _ us hl => match us, hl with | [_], _ => rfl
  have A_l_both : At K mg "_law_both" s_l_both ["_law_p", "_law_q"] := at_mk X G a22 l22 c22 k22 fun _ _ _ _ _ _ us hl => match us, hl with | [_, _], _ => rfl
  have A_l_less : At K mg "_law_less" s_l_less ["_law_p", "_law_q"] := at_mk X G a23 l23 c23 k23 fun _ _ _ _ _ _ us hl => match us, hl with | [_, _], _ => rfl
  have A_l_union : At K mg "_law_union" s_l_union ["_law_p", "_law_q"] := at_mk X G a24 l24 c24 k24 fun _ _ _ _ _ _ us hl => match us, hl with | [_, _], _ => rfl
  have A_l_cross : At K mg "_law_cross" s_l_cross ["_law_p", "_law_q"] := at_mk X G a25 l25 c25 k25 fun _ _ _ _ _ _ us hl => match us, hl with | [_, _], _ => rfl
  have A_l_two : At K mg "_law_two" s_l_two ["_law_state", "_law_pool"] := at_mk X G a26 l26 c26 k26 fun _ _ _ _ _ _ us hl => match us, hl with | [_, _], _ => rfl
  have A_l_pair_so : At K mg "_law_pair_so" s_l_pair_so ["_law_p", "_law_q"] := at_mk X G a27 l27 c27 k27 fun _ _ _ _ _ _ us hl => match us, hl with | [_, _], _ => rfl
  have A_l_lot_due : At K mg "_law_lot_due" s_l_lot_due ["_law_x"] := at_mk X G a28 l28 c28 k28 fun _ _ _ _ _ _ us hl => match us, hl with | [_], _ => rfl
  have A_l_listed : At K mg "_law_listed" s_l_listed ["_law_state", "_law_pool"] := at_mk X G a29 l29 c29 k29 fun _ _ _ _ _ _ us hl => match us, hl with | [_, _], _ => rfl
  have hm1 : mg "FindError" = some (.ref b1) := PySem.W.mg_of X G ab1
  have hm2 : mg "Missing" = some (.ref b2) := PySem.W.mg_of X G ab2
  have F_c_InvalidLot_init := fun_mk (x := "__init__") (qual := "InvalidLot.__init__") (st := s_c_InvalidLot_init) l31 c31 k31
  have E_c_InvalidLot_init : ErrC K mg "InvalidLot" "InvalidLot.__init__" s_c_InvalidLot_init ["self", "at"] ["at", "code"] C31 f31 _ := ⟨PySem.W.mg_of X G a31, ⟨⟨_, _, _, _, PySem.F.excBase_ValueError, PySem.F.store_ValueError, ei31, eo31⟩, sa31, ex31, ty31, kC31, hd31⟩, ⟨ga31, gg31, ex31, hd31⟩, (fun f hf => by
      simp only [List.mem_cons, List.not_mem_nil, or_false] at hf
      rcases hf with rfl | rfl
      · exact nf31_0
      · exact nf31_1), in31, ti31, F_c_InvalidLot_init, F_c_InvalidLot_init.binds (ps := ["self", "at"]) (fun _ _ _ _ _ _ us hl => match us, hl with | [_, _], _ => rfl), fun c1 c2 h1 h2 => by
    cases h1.symm.trans hm1
    cases h2.symm.trans hm2
    exact ca31⟩
  have gL : ∃ t, mg "_LETTERS" = some (.str abc t) := ⟨_, PySem.W.mg_of X G xL⟩
  have gM : ∃ t, mg "_MOST_LETTERS" = some (.int 6 t) := ⟨_, PySem.W.mg_of X G xM⟩
  refine ⟨PySem.W.fnOf "law" "law" (defArgs s_p_law) (defBody s_p_law) (defScope s_p_law) .none kV30 dc30 pm30 an30 (.ref cc) ct30, [(cc, Pt)], spLawT K Pt, fun p hp => ?_, fun p hp => ?_, fun p hp => ?_, fun s u => .of_eq (by rfl), fun H a ns hl _ hT hS => ⟨a, ns, rfl, hS, hl, hT _ (List.mem_singleton.mpr rfl), fun _ => rfl⟩, fun base _ _ hTB => ?_⟩
  · rw [List.mem_singleton.mp hp]
    exact own cc Pt _ _ _ _ _ _ l30 rfl rfl lc pc
  · rw [List.mem_singleton.mp hp]
    exact np
  · rw [List.mem_singleton.mp hp]
    exact PySem.W.codeHd_of_K X hcd
  have TB := hTB _ (List.mem_singleton.mpr rfl)
  have H_l_start := has_l_start (P := l.prog) (w := w) (base := base) Z A_l_start
  have H_l_draw := has_l_draw (P := l.prog) (w := w) (base := base) Z A_l_draw
  have H_l_pick := has_l_pick (P := l.prog) (w := w) (base := base) Z A_l_pick (H_l_draw)
  have H_l_letters := has_l_letters (P := l.prog) (w := w) (base := base) Z A_l_letters
  have H_l_word := has_l_word (P := l.prog) (w := w) (base := base) Z A_l_word (H_l_draw) (H_l_letters)
  have H_l_shuffle := has_l_shuffle (P := l.prog) (w := w) (base := base) Z A_l_shuffle (H_l_draw)
  have H_l_names := has_l_names (P := l.prog) (w := w) (base := base) Z A_l_names (H_l_draw) (H_l_pick) (H_l_letters) (H_l_word) (H_l_shuffle)
  have H_l_odd := has_l_odd (P := l.prog) (w := w) (base := base) Z A_l_odd (H_l_pick)
  have H_l_same := has_l_same (P := l.prog) (w := w) (base := base) Z A_l_same
  have H_l_union := has_l_union (P := l.prog) (w := w) (base := base) Z A_l_union
  have H_l_subset := has_l_subset (P := l.prog) (w := w) (base := base) Z A_l_subset (H_l_draw) (H_l_pick)
  have H_l_two := has_l_two (P := l.prog) (w := w) (base := base) Z A_l_two (H_l_draw) (H_l_subset) (H_l_union)
  have H_l_both := has_l_both (P := l.prog) (w := w) (base := base) Z A_l_both
  have H_l_less := has_l_less (P := l.prog) (w := w) (base := base) Z A_l_less
  have H_p_joined := has_p_joined (P := l.prog) (w := w) (base := base) Z A_p_joined
  have H_p_common := has_p_common (P := l.prog) (w := w) (base := base) Z A_p_common
  have H_p_rest := has_p_rest (P := l.prog) (w := w) (base := base) Z A_p_rest
  have H_l_cross := has_l_cross (P := l.prog) (w := w) (base := base) Z A_l_cross (H_l_both) (H_l_less)
  have H_p_are_apart := has_p_are_apart (P := l.prog) (w := w) (base := base) Z A_p_are_apart
  have H_p_is_within := has_p_is_within (P := l.prog) (w := w) (base := base) Z A_p_is_within
  have H_p_overlap := has_p_overlap (P := l.prog) (w := w) (base := base) Z A_p_overlap (H_p_are_apart) (H_p_is_within)
  have H_l_pair_so := has_l_pair_so (P := l.prog) (w := w) (base := base) Z A_l_pair_so (H_l_union) (H_l_both) (H_l_less) (H_l_same) (H_p_joined) (H_p_common) (H_p_rest) (H_l_cross) (H_p_are_apart) (H_p_overlap) (H_p_is_within)
  have H_l_is_name := fun n : Nat => has_l_is_name (P := l.prog) (w := w) (base := base) n Z A_l_is_name (H_l_letters)
  have H_l_lot_due := has_l_lot_due (P := l.prog) (w := w) (base := base) Z A_l_lot_due (H_l_is_name 5)
  have H_l_listed := has_l_listed (P := l.prog) (w := w) (base := base) Z A_l_listed (H_l_draw) (H_l_pick) (H_l_odd) (H_l_shuffle)
  have H_p_copied := has_p_copied (P := l.prog) (w := w) (base := base) Z A_p_copied
  have H_c_InvalidLot_init : HasE l.prog w K mg base "InvalidLot" "InvalidLot.__init__" s_c_InvalidLot_init ["self", "at"] ["at", "code"] 7 (spInit1 K "InvalidLot" "at" 6) := ⟨_, _, _, E_c_InvalidLot_init, has_c_InvalidLot_init (P := l.prog) (w := w) (base := base) Z F_c_InvalidLot_init (H_p_copied)⟩
  have H_p_is_name := fun n : Nat => has_p_is_name (P := l.prog) (w := w) (base := base) n Z gL gM A_p_is_name
  have H_p_lot_of := has_p_lot_of (P := l.prog) (w := w) (base := base) Z A_p_lot_of (H_c_InvalidLot_init) (H_p_is_name 5)
  have H_l_fields := has_l_fields (P := l.prog) (w := w) (base := base) Z A_l_fields
  exact has_p_law (P := l.prog) (w := w) (base := base) Z F_law rfl TB hm1 hm2 (H_l_start) (H_l_draw) (H_l_names) (H_l_odd) (H_l_same) (H_l_union) (H_l_two) (H_l_pair_so) (H_l_lot_due) (H_l_listed) (H_p_lot_of) (H_l_fields) A_l_try
theorem walk {l : PySem.W.OpenLaw} {q : Program} {loose : List Str} {XP : (Str → Option Value) → Heap → Prop} {YP : World → Heap → Prop} {d : DefRec} {K : Params → PySem.W.Frag} (hn : l.most = some 63) (hdf : d.params.defaults = []) (hrec : ((recsOf q).any fun e => e.name == d.name) = true)
    (hY : ∀ (w : World) (h : Heap), YP w h → (K w.params).In h)
    (F : ∀ (w : World) (mg : Str → Option Value) (fa : Addr) (h : Heap), (K w.params).In h → h.Ns mainGlobals mg → mg d.name = some (.ref fa) → LamX.OwnTab (K w.params) fa h → LamX.LawAtS l w (K w.params) CX0 12 63 "_law_script" mg fa h) :
    PySem.W.WalkO q loose XP YP l.row.toRowW d [] (fun f vs => PySem.call f vs) :=
  LamX.walk_ofOwn (n := 63) (k := 12) (x := "_law_script") (CX := fun _ => CX0) hn (by decide) hdf ⟨rfl, by decide, by decide⟩ hrec hY (fun w mg fa h _ kx g hm o => F w mg fa h kx g hm o) fun _ _ _ _ _ z => z
end Th
open PySem PySem.W PyProof.Rows
set_option maxRecDepth 100000 in
set_option maxHeartbeats 0 in
theorem PySem.Challenge.cw_threeorders_k02_lots_joined_and_parted_holds : PySem.Challenge.rw_threeorders_k02_lots_joined_and_parted.Holds := by
  w_on; o_law; k_head; (case hw => w_witness2)
  k_fill
  refine Th.walk (l := PySem.Challenge.rw_threeorders_k02_lots_joined_and_parted) rfl rfl (by decide +kernel) (fun w h Y => Y.1) ?F
  case F =>
    intro w mg fa h KX G hmg own
    refine' Th.all_mk KX G own hmg ?a0 ?l0 ?c0 ?k0 ?a1 ?l1 ?c1 ?k1 ?a2 ?l2 ?c2 ?k2 ?a3 ?l3 ?c3 ?k3 ?a4 ?l4 ?c4 ?k4 ?a5 ?l5 ?c5 ?k5 ?a6 ?l6 ?c6 ?k6 ?a7 ?l7 ?c7 ?k7 ?a8 ?l8 ?c8 ?k8 ?a9 ?l9 ?c9 ?k9 ?a10 ?l10 ?c10 ?k10 ?a11 ?l11 ?c11 ?k11 ?a12 ?l12 ?c12 ?k12 ?a13 ?l13 ?c13 ?k13 ?a14 ?l14 ?c14 ?k14 ?a15 ?l15 ?c15 ?k15 ?a16 ?l16 ?c16 ?k16 ?a17 ?l17 ?c17 ?k17 ?a18 ?l18 ?c18 ?k18 ?a19 ?l19 ?c19 ?k19 ?a20 ?l20 ?c20 ?k20 ?a21 ?l21 ?c21 ?k21 ?a22 ?l22 ?c22 ?k22 ?a23 ?l23 ?c23 ?k23 ?a24 ?l24 ?c24 ?k24 ?a25 ?l25 ?c25 ?k25 ?a26 ?l26 ?c26 ?k26 ?a27 ?l27 ?c27 ?k27 ?a28 ?l28 ?c28 ?k28 ?a29 ?l29 ?c29 ?k29 ?a30 ?l30 ?c30 ?k30 ?lc ?pc ?np ?hcd ?z_len ?z_range ?z_int ?z_abs ?z_isinstance ?z_all ?z_any ?z_sorted ?z_set ?z_list ?z_tuple ?z_str ?z_bool ?z_enumerate ?z_min ?z_max ?ab1 ?ab2 ?a31 ?ei31 ?eo31 ?sa31 ?ex31 ?ty31 ?kC31 ?hd31 ?ga31 ?gg31 ?in31 ?ti31 ?l31 ?c31 ?k31 ?ca31 ?nf31_0 ?nf31_1 ?xL ?xM
    (case a0 => k_is)
    (case l0 => k_is)
    (case c0 => k_is)
    (case k0 => k_is)
    (case a1 => k_is)
    (case l1 => k_is)
    (case c1 => k_is)
    (case k1 => k_is)
    (case a2 => k_is)
    (case l2 => k_is)
    (case c2 => k_is)
    (case k2 => k_is)
    (case a3 => k_is)
    (case l3 => k_is)
    (case c3 => k_is)
    (case k3 => k_is)
    (case a4 => k_is)
    (case l4 => k_is)
    (case c4 => k_is)
    (case k4 => k_is)
    (case a5 => k_is)
    (case l5 => k_is)
    (case c5 => k_is)
    (case k5 => k_is)
    (case a6 => k_is)
    (case l6 => k_is)
    (case c6 => k_is)
    (case k6 => k_is)
    (case a7 => k_is)
    (case l7 => k_is)
    (case c7 => k_is)
    (case k7 => k_is)
    (case a8 => k_is)
    (case l8 => k_is)
    (case c8 => k_is)
    (case k8 => k_is)
    (case a9 => k_is)
    (case l9 => k_is)
    (case c9 => k_is)
    (case k9 => k_is)
    (case a10 => k_is)
    (case l10 => k_is)
    (case c10 => k_is)
    (case k10 => k_is)
    (case a11 => k_is)
    (case l11 => k_is)
    (case c11 => k_is)
    (case k11 => k_is)
    (case a12 => k_is)
    (case l12 => k_is)
    (case c12 => k_is)
    (case k12 => k_is)
    (case a13 => k_is)
    (case l13 => k_is)
    (case c13 => k_is)
    (case k13 => k_is)
    (case a14 => k_is)
    (case l14 => k_is)
    (case c14 => k_is)
    (case k14 => k_is)
    (case a15 => k_is)
    (case l15 => k_is)
    (case c15 => k_is)
    (case k15 => k_is)
    (case a16 => k_is)
    (case l16 => k_is)
    (case c16 => k_is)
    (case k16 => k_is)
    (case a17 => k_is)
    (case l17 => k_is)
    (case c17 => k_is)
    (case k17 => k_is)
    (case a18 => k_is)
    (case l18 => k_is)
    (case c18 => k_is)
    (case k18 => k_is)
    (case a19 => k_is)
    (case l19 => k_is)
    (case c19 => k_is)
    (case k19 => k_is)
    (case a20 => k_is)
    (case l20 => k_is)
    (case c20 => k_is)
    (case k20 => k_is)
    (case a21 => k_is)
    (case l21 => k_is)
    (case c21 => k_is)
    (case k21 => k_is)
    (case a22 => k_is)
    (case l22 => k_is)
    (case c22 => k_is)
    (case k22 => k_is)
    (case a23 => k_is)
    (case l23 => k_is)
    (case c23 => k_is)
    (case k23 => k_is)
    (case a24 => k_is)
    (case l24 => k_is)
    (case c24 => k_is)
    (case k24 => k_is)
    (case a25 => k_is)
    (case l25 => k_is)
    (case c25 => k_is)
    (case k25 => k_is)
    (case a26 => k_is)
    (case l26 => k_is)
    (case c26 => k_is)
    (case k26 => k_is)
    (case a27 => k_is)
    (case l27 => k_is)
    (case c27 => k_is)
    (case k27 => k_is)
    (case a28 => k_is)
    (case l28 => k_is)
    (case c28 => k_is)
    (case k28 => k_is)
    (case a29 => k_is)
    (case l29 => k_is)
    (case c29 => k_is)
    (case k29 => k_is)
    (case a30 => k_is)
    (case l30 => k_is)
    (case c30 => k_is)
    (case k30 => k_is)
    (case lc => k_is)
    (case pc => exact by rfl)
    (case np => first | kernel_rfl | rfl | decide +kernel)
    (case hcd => first | kernel_rfl | rfl | decide +kernel)
    (case z_len => k_is)
    (case z_range => k_is)
    (case z_int => k_is)
    (case z_abs => k_is)
    (case z_isinstance => k_is)
    (case z_all => k_is)
    (case z_any => k_is)
    (case z_sorted => k_is)
    (case z_set => k_is)
    (case z_list => k_is)
    (case z_tuple => k_is)
    (case z_str => k_is)
    (case z_bool => k_is)
    (case z_enumerate => k_is)
    (case z_min => k_is)
    (case z_max => k_is)
    (case ab1 => k_is)
    (case ab2 => k_is)
    (case a31 => k_is)
    (case ei31 => first | kernel_rfl | rfl | decide +kernel)
    (case eo31 => first | kernel_rfl | rfl | decide +kernel)
    (case sa31 => k_is)
    (case ex31 => k_is)
    (case ty31 => k_is)
    (case kC31 => k_is)
    (case hd31 => k_is)
    (case ga31 => k_is)
    (case gg31 => k_is)
    (case in31 => k_is)
    (case ti31 => k_is)
    (case l31 => k_is)
    (case c31 => k_is)
    (case k31 => k_is)
    (case ca31 => first | kernel_rfl | rfl | decide +kernel)
    (case nf31_0 => k_is)
    (case nf31_1 => k_is)
    (case xL => k_is)
    (case xM => k_is)
