import PyProof.Rows.All
import Wide.All
import OpenK.AllK
import Wide.FinOn
import PyProof.EqAt
import PyProof.EqKinds
import PyProof.TupleCall
import HandS.Base
import HandS.Call
import HandS.List
import HandS.Set
import HandS.SetFor
import HandS.Comp
import HandS.Iter
import HandS.Text
import HandS.Ends
import HandS.Words
import HandS.WordsList
import HandS.IsInst
import HandS.Style
import HandS.TupAny
import HandS.More
import HandS.Walk
import HandS.Wide
import HandS.Codes
import HandS.ReCall
import HandS.Strs
import KE.KExcInit
import KE.KTryMore
import KE.KExcHand
import HandS.Exc
import HandS.ExcInit
import HandS.WordsExc
import HandS.HotCalls
import HandS.Lambda
import HandS.ExcField
import HandS.EndOwn
import HandS.Deep
import PyProof.P3In
import KE.GoesEnum
import HandS.Star
import PyProof.EnumMake
import HandS.Defaults
import PySem.Challenge.RW_threeorders_k05_whole_facts_checked
set_option Elab.async false
set_option linter.all false
set_option maxRecDepth 100000
set_option maxHeartbeats 8000000
/-! sets of texts: set(xs) of a list or tuple of texts, sorted of it -/
namespace L2
open PySem PySem.Spec PyProof.Rows

/-- the text that an entry of a set's table holds -/
def tagOf (v : Value) : Str := match v with | .str x _ => x | _ => Str.empty
def tagE (e : Int × Value) : Str := tagOf e.2

/-- at a stands a set whose members are the texts of l, each once; its table can be walked -/
def TxSet (P : Program) (w : World) (h : Heap) (a : Addr) (l : List Str) : Prop :=
  ∃ o es ep t, h.get? a = some o ∧ o.ExactSet ∧ o.data = .set es ep t ∧
    (∀ e ∈ es.toList, ∃ tk, e.2 = Value.str (tagE e) tk ∧ e.1 = (PySem.strKind P w).hash (tagE e)) ∧
    (es.toList.map tagE).Perm l ∧ l.Nodup ∧ es.size < scanBound ∧ t.fits es.size = true ∧ Ris t.place.toList ∧
    (w.params.followText "set-order" = true ∨ t.led = true)

section
variable {P : Program} {w : World} {h h' : Heap} {a : Addr} {l : List Str}
theorem TxSet.stay (R : TxSet P w h a l) (k : ∀ o, h.get? a = some o → h'.get? a = some o) : TxSet P w h' a l :=
  let ⟨o, es, ep, t, ho, r⟩ := R
  ⟨o, es, ep, t, k o ho, r⟩
theorem TxSet.perm {m : List Str} (R : TxSet P w h a l) (p : l.Perm m) : TxSet P w h a m :=
  let ⟨o, es, ep, t, ho, hx, hd, g, pm, nd, r⟩ := R
  ⟨o, es, ep, t, ho, hx, hd, g, pm.trans p, p.nodup_iff.mp nd, r⟩
theorem tx_elems {es : List (Int × Value)} (g : ∀ e ∈ es, ∃ tk, e.2 = Value.str (tagE e) tk ∧ e.1 = (PySem.strKind P w).hash (tagE e)) : ElemsOf (PySem.strKind P w) es := by
  intro e he
  obtain ⟨tk, h1, h2⟩ := g e he
  refine ⟨⟨tagE e, ?_, h2⟩, ?_⟩
  · rw [h1]
    exact PySem.strKind_is P w (tagE e) tk
  · rw [h1]
    rfl
theorem tx_is {es : List (Int × Value)} (g : ∀ e ∈ es, ∃ tk, e.2 = Value.str (tagE e) tk ∧ e.1 = (PySem.strKind P w).hash (tagE e)) {e : Int × Value} (he : e ∈ es) (x : Str) : (PySem.strKind P w).is x e.2 = true ↔ tagE e = x := by
  obtain ⟨tk, h1, _⟩ := g e he
  constructor
  · intro q
    rw [h1] at q
    obtain ⟨t, z⟩ := Value.isStrOf_shape (show Value.isStrOf x (Value.str (tagE e) tk) = true from q)
    injection z
  · intro q
    rw [h1, q]
    exact PySem.strKind_is P w x tk
end

section
variable {P : Program} {w : World} {A : Around} {E : Value → Shared → Prop} {s : Shared} {a : Addr} {l : List Str}

/-- the set's store, and the table's growth behind it -/
theorem tx_store {g : Bool → Sem Unit} (hg : ∀ (b : Bool) (s₁ : Shared) (Q' : Unit → Shared → Prop), Q' () s₁ → wpAny (model P w) A (g b) Q' E s₁)
    {o : Obj} {es : Array (Int × Value)} {ep : Nat} {t : SetTable} (ho : s.heap.get? a = some o) (hex : o.ExactSet) (hd : o.data = .set es ep t)
    {fs : Array (Int × Value)} {u : SetTable} {m : List Str}
    (hgood : ∀ e ∈ fs.toList, ∃ tk, e.2 = Value.str (tagE e) tk ∧ e.1 = (PySem.strKind P w).hash (tagE e)) (hp : (fs.toList.map tagE).Perm m) (hm : m.Nodup)
    (hb : fs.size < scanBound) (hf : u.fits fs.size = true) (hr : Ris u.place.toList) (hl : w.params.followText "set-order" = true ∨ u.led = true) {dum : Bool} {R : Option Bool → Shared → Prop}
    (fin : ∀ h', Heap.SameBut a s.heap h' → TxSet P w h' a m → R (some true) { s with heap := h' }) :
    wpAny (model P w) A (do
        storeSet a fs u
        if (!dum && u.tooFull) = true then do
            g (relayAll u fs (SetTable.grown fs.size)).2.2
            storeSet a (relayAll u fs (SetTable.grown fs.size)).1 (relayAll u fs (SetTable.grown fs.size)).2.1
            pure (some true)
          else pure (some true)) R E s := by
  refine wpAny_bind (wpAny_storeSet_of ho hd ?_ (fits_of_scanBound hb))
  have q1 := store_at (es' := fs) (t' := u) ho hd
  have b1 := Heap.SameBut.update s.heap a (Obj.putSet fs u)
  split
  · have c1 := relayAll_perm u fs (SetTable.grown fs.size)
    have c2 := relayAll_fits u fs (SetTable.grown fs.size)
    have c3 := relayAll_ris u fs (SetTable.grown fs.size)
    have c4 := relayAll_led u fs (SetTable.grown fs.size)
    generalize relayAll u fs (SetTable.grown fs.size) = Z at c1 c2 c3 c4 ⊢
    obtain ⟨gs, v, gave⟩ := Z
    dsimp only at c1 c2 c3 c4 ⊢
    have z1 : gs.size = fs.size := by rw [← Array.length_toList, c1.length_eq, Array.length_toList]
    have z2 : gs.size < scanBound := by rw [z1]; exact hb
    refine wpAny_bind (hg _ _ _ ?_)
    refine wpAny_bind (wpAny_storeSet_of q1 rfl ?_ (fits_of_scanBound z2))
    have q2 := store_at (es' := gs) (t' := v) q1 rfl
    refine wpAny_pure (fin _ (b1.trans (Heap.SameBut.update _ a _)) ?_)
    refine ⟨_, gs, _, v, q2, hex, rfl, fun e he => hgood e (c1.mem_iff.mp he), (c1.map tagE).trans hp, hm, z2, c2, c3, ?_⟩
    rcases hl with z | z
    · exact .inl z
    · exact .inr (c4.trans z)
  · exact wpAny_pure (fin _ b1 ⟨_, fs, _, u, q1, hex, rfl, hgood, hp, hm, hb, hf, hr, hl⟩)

/-- one text more -/
theorem tx_put {x : Str} {tk : Tok} {Q : Bool → Shared → Prop} (R : TxSet P w s.heap a l) (room : l.length + 1 < scanBound)
    (fin : ∀ h' b, Heap.SameBut a s.heap h' → TxSet P w h' a (if x ∈ l then l else x :: l) → Q b { s with heap := h' }) :
    wpAny (model P w) A (setAddHashed a (.str x tk) ((PySem.strKind P w).hash x)) Q E s := by
  obtain ⟨o, es, ep, t, ho, hex, hd, g, hp, nd, hb, hf, hr, hl⟩ := R
  have hkey : (PySem.strKind P w).is x (.str x tk) = true := PySem.strKind_is P w x tk
  have hsc : (Value.str x tk).scannable = true := rfl
  have hel := tx_elems g
  unfold setAddHashed setAddHashedIn
  refine wpAny_holding (wpAny_bind (wpAny_setState_of ho hd hf ?_))
  dsimp only
  rw [byScan_of hsc hb hel]
  simp only [↓reduceIte]
  unfold setAddByScan
  refine wpAny_bind (wpAny_bind (wpAny_rule (wpAny_bind (wpAny_setScan_of hkey ho hd hf hel ?_))))
  cases hfi : List.findIdx? (fun e => (PySem.strKind P w).is x e.2) es.toList with
  | some j =>
    dsimp only
    obtain ⟨hj, pj, _⟩ := List.findIdx?_eq_some_iff_getElem.mp hfi
    have hx : x ∈ l := hp.mem_iff.mp (List.mem_map.mpr ⟨es.toList[j], List.getElem_mem hj, (tx_is g (List.getElem_mem hj) x).mp pj⟩)
    refine wpAny_pure (wpAny_pure (fin s.heap _ (Heap.SameBut.refl a s.heap) ?_))
    rw [if_pos hx]
    exact ⟨o, es, ep, t, ho, hex, hd, g, hp, nd, hb, hf, hr, hl⟩
  | none =>
    dsimp only
    have hx : x ∉ l := fun z => by
      obtain ⟨e, he, q⟩ := List.mem_map.mp (hp.mem_iff.mpr z)
      have c := List.findIdx?_eq_none_iff.mp hfi e he
      rw [(tx_is g he x).mpr q] at c
      cases c
    have gw : ∀ (b : Bool) {s₁ : Shared} {Q' : Unit → Shared → Prop}, Q' () s₁ → wpAny (model P w) A (match b with | true => rule "set.scan.the-table-gave-way" | false => pure ()) Q' E s₁ :=
      fun b s₁ Q' q => by cases b <;> first | exact wpAny_pure q | exact wpAny_rule q
    have d1 := layNew_perm t es ((PySem.strKind P w).hash x) (.str x tk)
    have d2 := layNew_fits t es ((PySem.strKind P w).hash x) (.str x tk)
    have d3 := layNew_ris t es ((PySem.strKind P w).hash x) (.str x tk) hr
    have d4 := layNew_led t es ((PySem.strKind P w).hash x) (.str x tk)
    generalize layNew t es ((PySem.strKind P w).hash x) (.str x tk) = Z at d1 d2 d3 d4 ⊢
    obtain ⟨fs, u, dum, gave⟩ := Z
    dsimp only at d1 d2 d3 d4 ⊢
    rw [Array.toList_push] at d1
    have e1 : fs.toList.Perm (((PySem.strKind P w).hash x, Value.str x tk) :: es.toList) := d1.trans (List.perm_append_singleton _ _)
    have e2 : (fs.toList.map tagE).Perm (x :: l) := (e1.map tagE).trans (List.Perm.cons x hp)
    have good : ∀ e ∈ fs.toList, ∃ tk, e.2 = Value.str (tagE e) tk ∧ e.1 = (PySem.strKind P w).hash (tagE e) := fun e he => by
      rcases List.mem_cons.mp (e1.mem_iff.mp he) with z | z
      · rw [z]; exact ⟨tk, rfl, rfl⟩
      · exact g e z
    have e3 : (x :: l).Nodup := List.nodup_cons.mpr ⟨hx, nd⟩
    have e4 : fs.size = l.length + 1 := by rw [← Array.length_toList, ← List.length_map (f := tagE), e2.length_eq]; rfl
    have e5 : fs.size < scanBound := by rw [e4]; exact room
    have e6 : w.params.followText "set-order" = true ∨ u.led = true := by
      rcases hl with z | z
      · exact .inl z
      · exact .inr (d4.trans z)
    have last : ∀ h' b, Heap.SameBut a s.heap h' → TxSet P w h' a (x :: l) → Q b { s with heap := h' } := fun h' b sb r => fin h' b sb (by rw [if_neg hx]; exact r)
    refine wpAny_bind (gw _ ?_)
    split
    · refine wpAny_bind ?_
      rw [hashByValue_scannable 8 hsc]
      refine wpAny_pure ?_
      refine tx_store ?_ ho hex hd good e2 e3 e5 ?_ ?_ ?_ ?_
      · intro b s₁ Q' q; cases b <;> first | exact wpAny_pure q | exact wpAny_rule q
      · first | (split <;> first | exact d2 | exact SetTable.fits_plain_off d2) | exact d2
      · first | (split <;> exact d3) | exact d3
      · first | (split <;> exact e6) | exact e6
      · intro h' sb r; dsimp only; exact wpAny_pure (last h' _ sb r)
    · refine wpAny_bind (wpAny_pure ?_)
      simp only [↓reduceIte]
      refine tx_store ?_ ho hex hd good e2 e3 e5 d2 d3 e6 ?_
      · intro b s₁ Q' q; cases b <;> first | exact wpAny_pure q | exact wpAny_rule q
      · intro h' sb r; dsimp only; exact wpAny_pure (last h' _ sb r)

/-- the texts of xs, each once, as a set that took them one by one holds them -/
def once : List Str → List Str → List Str
  | acc, [] => acc
  | acc, x :: r => once (if x ∈ acc then acc else x :: acc) r
theorem once_nodup : ∀ (xs acc : List Str), acc.Nodup → (once acc xs).Nodup
  | [], _, h => h
  | x :: r, acc, h => by
    unfold once
    refine once_nodup r _ ?_
    split
    · exact h
    · exact List.nodup_cons.mpr ⟨by assumption, h⟩
theorem once_mem : ∀ (xs acc : List Str) (y : Str), y ∈ once acc xs ↔ y ∈ acc ∨ y ∈ xs
  | [], acc, y => by simp [once]
  | x :: r, acc, y => by
    unfold once
    rw [once_mem r _ y]
    split
    · rename_i hx
      constructor
      · rintro (z | z)
        · exact .inl z
        · exact .inr (List.mem_cons_of_mem _ z)
      · rintro (z | z)
        · exact .inl z
        · rcases List.mem_cons.mp z with e | z
          · exact .inl (e ▸ hx)
          · exact .inr z
    · simp only [List.mem_cons]
      constructor
      · rintro ((z | z) | z)
        · exact .inr (.inl z)
        · exact .inl z
        · exact .inr (.inr z)
      · rintro (z | z | z)
        · exact .inl (.inr z)
        · exact .inl (.inl z)
        · exact .inr z
theorem once_length : ∀ (xs acc : List Str), (once acc xs).length ≤ acc.length + xs.length
  | [], acc => by simp [once]
  | x :: r, acc => by
    unfold once
    have q := once_length r (if x ∈ acc then acc else x :: acc)
    rw [List.length_cons]
    split at q
    · rw [if_pos (by assumption)]; omega
    · rw [if_neg (by assumption)]; rw [List.length_cons] at q; omega

/-- the loop of set(xs): one text after another -/
theorem tx_loop {I : Addr} {fp wr : List Addr} {G : Array GenState → Array GenState → Prop} {n : Nat} {Pv : Nat → Value → Prop} {St : Nat → Shared → Prop} {R : Result → Shared → Prop}
    (W : WalksS P w A.in1 I fp wr G n Pv St) (S : Addr) (hSf : S ∉ fp) (xs : List Str) (hn : n = xs.length) (hval : ∀ i v, Pv i v → ∃ x t, xs[i]? = some x ∧ v = .str x t) :
    ∀ (k i : Nat) (acc : List Str) (s : Shared), n - i = k → i ≤ n → St i s → TxSet P w s.heap S acc → acc.length + k + 1 < scanBound →
      (∀ s', Moved (S :: wr) G s s' → TxSet P w s'.heap S (once acc (xs.drop i)) → R (.ok (.ret .none)) s') →
      codeAny (model P w) A (.builtin "set.update.loop" ⟨[.ref S, .ref I], []⟩) R s := by
  have nw : S ∉ wr := fun h => hSf (W.sub _ h)
  have sb : ∀ b ∈ wr, b ∈ S :: wr := fun b hb => List.mem_cons_of_mem _ hb
  intro k
  induction k with
  | zero =>
    intro i acc s hk hi hst hS _ hR
    have e : i = n := by omega
    subst e
    refine codeAny_builtin F.entry_set_update_loop ?_
    rw [Around.under_plainId F.plain_set_update_loop _]
    show wpAny _ A.in1 (pyNext (.ref I) >>= _) _ _ s
    refine wpAny_bind (W.done s _ _ hst fun s' hm => ?_)
    show wpAny _ A.in1 (ret Value.none) _ _ s'
    have q : xs.drop i = [] := List.drop_eq_nil_of_le (by omega)
    rw [q] at hR
    exact wpAny_pure (hR s' (hm.mono sb) (hS.stay fun o e => hm.heap S o nw e))
  | succ k ih =>
    intro i acc s hk hi hst hS hroom hR
    have lt : i < n := by omega
    refine codeAny_builtin F.entry_set_update_loop ?_
    rw [Around.under_plainId F.plain_set_update_loop _]
    show wpAny _ A.in1 (pyNext (.ref I) >>= _) _ _ s
    refine wpAny_bind (W.item i s _ _ lt hst fun v s' hP hst' hm => ?_)
    obtain ⟨x, t, hx, rfl⟩ := hval i v hP
    have hS1 : TxSet P w s'.heap S acc := hS.stay fun o e => hm.heap S o nw e
    show wpAny _ A.in1 (holding [Value.str x t] (setAdd S (.str x t)) >>= _) _ _ s'
    refine wpAny_bind (wpAny_holding ?_)
    unfold setAdd
    refine wpAny_holding ?_
    refine wpAny_bind ((PySem.strKind P w).pyHash (k := x) (PySem.strKind_is _ _ _ _) ?_)
    refine tx_put (s := { s' with toks := s'.toks + 1 }) hS1 (by omega) fun h' b hsb hS2 => ?_
    have ed : xs.drop i = x :: xs.drop (i + 1) := by
      have hlt : i < xs.length := by omega
      rw [List.drop_eq_getElem_cons hlt]
      have q : xs[i] = x := by
        rw [List.getElem?_eq_getElem hlt] at hx
        exact Option.some.inj hx
      rw [q]
    have hlen : (if x ∈ acc then acc else x :: acc).length ≤ acc.length + 1 := by
      split
      · omega
      · exact Nat.le_refl _
    refine wpAny_pure ⟨plainId_quiet F.plain_set_update_loop _, ih (i + 1) _ _ (by omega) lt (W.frame _ s' _ _ hst' (Nat.le_succ _) fun b hb o e => ?_) hS2 (by omega) fun s'' hm'' hS'' => ?_⟩
    · rw [hsb.2 b (fun h : b = S => hSf (by rw [← h]; exact hb))]; exact e
    · refine hR s'' (Moved.trans W.gtrans ((hm.mono sb).then_heap (Nat.le_succ _) fun b o hb e => ?_) hm'') (by rw [ed]; exact hS'')
      rw [hsb.2 b (fun h : b = S => hb (by rw [h]; exact List.mem_cons_self))]; exact e
end

/-- the set that set() has just laid -/
abbrev txNew (w : World) : Obj := { cls := .type "set", dict := none, data := .set #[] 0 (.fresh 0 0 (!w.params.followText "set-order")) }
theorem txNew_at {P : Program} {w : World} {h : Heap} {a : Addr} (ho : h.get? a = some (txNew w)) : TxSet P w h a [] :=
  ⟨_, #[], 0, _, ho, ⟨rfl, rfl, rfl⟩, rfl, (fun e he => by simp at he), (by simp), List.nodup_nil, (by decide), (by rfl), List.Pairwise.nil, by
    show _ ∨ (!w.params.followText "set-order") = true
    cases w.params.followText "set-order"
    · exact .inr rfl
    · exact .inl rfl⟩
theorem txs_at : ∀ {us : List Value} {xs : List Str}, StrsAre us xs → ∀ (i : Nat) (v : Value), us[i]? = some v → ∃ x t, xs[i]? = some x ∧ v = .str x t
  | _, _, .nil, i, v, h => by simp at h
  | _, _, .cons y t r, 0, v, h => ⟨y, t, rfl, by simpa using h.symm⟩
  | _, _, .cons y t r, i + 1, v, h => by
    simp only [List.getElem?_cons_succ] at h
    exact txs_at r i v h
section
variable {P : Program} {w : World} {A : Around} {E : Value → Shared → Prop} {s : Shared}

set_option maxRecDepth 100000 in
set_option maxHeartbeats 6400000 in
/-- set(xs), xs a tuple of texts -/
theorem tx_call_tuple {l : Addr} {items : Array Value} (xs : List Str) {Q : Value → Shared → Prop} (hh : A.handled = none) (hl : s.heap.IsTuple l items) (hit : StrsAre items.toList xs) (hb : xs.length + 1 < scanBound)
    (fin : ∀ (h' : Heap) (tk : Nat), TxSet P w h' s.heap.objs.size (once [] xs) → (∀ b o, s.heap.get? b = some o → h'.get? b = some o) → Q (.ref s.heap.objs.size) { s with heap := h', toks := tk }) :
    wpAny (model P w) A (call (.type "set") [.ref l]) Q E s := by
  have isz : items.size = xs.length := by
    have q := StrsAre.len_eq hit
    rw [Array.length_toList] at q
    exact q
  obtain ⟨c, tl, hmro⟩ := F.called_set.mro
  have hmade := F.called_set.made
  have hsub := F.called_set.sub
  refine wpAny_call (codeAny_of_tree ?_)
  show wpAny _ _ (callAny (.type "set") _) _ _ _
  refine wpAny_pure ⟨Code.quiet_builtin _ (by decide +kernel), codeAny_builtin F.entry_type_call ?_⟩
  rw [Around.under_plain (weight_type_call_type "set" [.ref l] []) rfl]
  have h1 := F.called_set.notType
  have h2 := F.called_set.canCreate
  have hct := F.typeCall_set_1 (.ref l)
  repeat (any_goals (first | assumption | wp_step))
  refine codeAny_mono (code_set_led1 (.ref l) (E := E) (Q₁ := fun obj s₁ => obj = .ref s.heap.objs.size ∧ s₁ = { s with heap := s.heap.push (txNew w) }) ⟨rfl, rfl⟩) fun r s₁ hr => ?_
  cases r with
  | error e => exact hr
  | ok fl =>
    cases fl with
    | ret obj =>
      obtain ⟨rfl, rfl⟩ := hr
      have atS : (s.heap.push (txNew w)).get? s.heap.objs.size = some (txNew w) := Heap.get?_push_size _ rfl
      have hT : Shared.TypeIs { s with heap := s.heap.push (txNew w) } (.ref s.heap.objs.size) "set" := ⟨_, atS, rfl⟩
      have hli := F.called_set.init.lookup
      have hbi := F.called_set.init.bind (.ref s.heap.objs.size)
      repeat (any_goals (first | assumption | wp_step))
      refine codeAny_mono (codeAny_call_builtin (R := wants (fun r s₂ => r = .none ∧ ∃ h' tk, s₂ = { s with heap := h', toks := tk } ∧ TxSet P w h' s.heap.objs.size (once [] xs) ∧
          (∀ b o, s.heap.get? b = some o → h'.get? b = some o)) E) F.called_set.init.plain F.entry_set_init (check_set_init_1 hT ?_)) fun r₂ s₂ hr₂ => ?_
      · obtain ⟨ol, hol, hcl, nl, hdl⟩ := hl
        obtain ⟨ocls, odict, odata, oslots⟩ := ol
        simp only at hcl hdl
        subst hcl; subst hdl
        have old : (s.heap.push (txNew w)).get? l = some { cls := .type "tuple", dict := odict, data := .seq items nl, slots := oslots } := Heap.get?_push_of_some _ hol
        have hsls := F.sub_tuple_set
        have hslf := F.sub_tuple_frozenset
        have hne : (Value.type "tuple" == Value.type "dict") = false := by decide
        have hl1 : (s.heap.push (txNew w)).IsTuple l items := ⟨_, old, rfl, nl, rfl⟩
        unfold Builtin.«set.__init__» noKeywords Builtin.Frozenset.updateFrom
        generalize hPI : pyIter = PI
        wp_walk
        subst hPI
        refine wpAny_pyIter_tuple hl1 ?_
        refine wpAny_bind (wpAny_runValue ?_)
        have lS : l < s.heap.objs.size := Heap.lt_size hol
        have hh3 : A.in1.in1.in1.handled = none := by simp [hh]
        have apart : l ≠ (s.heap.push (txNew w)).objs.size := by
          rw [Heap.size_push]; exact Nat.ne_of_lt (Nat.lt_succ_of_lt lS)
        have notfp : s.heap.objs.size ∉ [(s.heap.push (txNew w)).objs.size, l] := by
          rw [Heap.size_push]; simp only [List.mem_cons, List.mem_singleton, List.not_mem_nil, or_false, not_or]
          exact ⟨Nat.ne_of_lt (Nat.lt_succ_self _), Nat.ne_of_gt lS⟩
        have hval : ∀ (i : Nat) (v : Value), items[i]? = some v → ∃ x t, xs[i]? = some x ∧ v = .str x t := fun i v hv => txs_at hit i v (by rw [Array.getElem?_toList]; exact hv)
        have at0 : ((s.heap.push (txNew w)).push { cls := .type "tuple_iterator", data := .fields #[.ref l, .int 0 0] }).get? s.heap.objs.size = some (txNew w) := Heap.get?_push_of_some _ atS
        refine tx_loop ((Walks.tuple hh3 _ l apart items).toS) s.heap.objs.size notfp xs isz hval (items.size - 0) 0 [] _ (by omega) (Nat.zero_le _)
          ⟨⟨_, Heap.get?_push_size _ rfl, rfl, rfl⟩, (hl1.push _)⟩ (txNew_at at0) (by rw [isz]; simpa using hb) fun s' hm hS => ?_
        obtain ⟨h', g2, d', tk', os'⟩ := s'
        have eg : g2 = s.gens := hm.gens
        have ed : d' = s.drawn := hm.drawn
        have eo : os' = s.os := hm.os
        subst eg; subst ed; subst eo
        show wpAny _ _ _ _ _ _
        refine wpAny_pure ?_
        show wpAny _ _ (ret Value.none) _ _ _
        refine wpAny_pure ⟨rfl, h', tk', rfl, hS, fun b o e => ?_⟩
        have b0 : b < s.heap.objs.size := Heap.lt_size e
        have b1 : b ≠ s.heap.objs.size := Nat.ne_of_lt b0
        have b2 : b ≠ (s.heap.push (txNew w)).objs.size := by
          rw [Heap.size_push]; exact Nat.ne_of_lt (Nat.lt_succ_of_lt b0)
        exact hm.heap b o (by simp only [List.mem_cons, List.mem_singleton, List.not_mem_nil, or_false, not_or]; exact ⟨b1, b2⟩) (Heap.get?_push_of_some _ (Heap.get?_push_of_some _ e))
      · cases r₂ with
        | error e => exact hr₂
        | ok fl₂ =>
          cases fl₂ with
          | ret r =>
            obtain ⟨rfl, h', tk, rfl, hS, kp⟩ := hr₂
            repeat (any_goals (first | assumption | wp_step))
            exact fin _ _ hS kp
          | _ => exact hr₂.elim
    | _ => exact hr.elim

set_option maxRecDepth 100000 in
set_option maxHeartbeats 6400000 in
/-- set(xs), xs a list of texts -/
theorem tx_call_list {l : Addr} {items : Array Value} (xs : List Str) {Q : Value → Shared → Prop} (hh : A.handled = none) (hl : s.heap.IsList l items) (hit : StrsAre items.toList xs) (hb : xs.length + 1 < scanBound)
    (fin : ∀ (h' : Heap) (tk : Nat), TxSet P w h' s.heap.objs.size (once [] xs) → (∀ b o, s.heap.get? b = some o → h'.get? b = some o) → Q (.ref s.heap.objs.size) { s with heap := h', toks := tk }) :
    wpAny (model P w) A (call (.type "set") [.ref l]) Q E s := by
  have isz : items.size = xs.length := by
    have q := StrsAre.len_eq hit
    rw [Array.length_toList] at q
    exact q
  obtain ⟨c, tl, hmro⟩ := F.called_set.mro
  have hmade := F.called_set.made
  have hsub := F.called_set.sub
  refine wpAny_call (codeAny_of_tree ?_)
  show wpAny _ _ (callAny (.type "set") _) _ _ _
  refine wpAny_pure ⟨Code.quiet_builtin _ (by decide +kernel), codeAny_builtin F.entry_type_call ?_⟩
  rw [Around.under_plain (weight_type_call_type "set" [.ref l] []) rfl]
  have h1 := F.called_set.notType
  have h2 := F.called_set.canCreate
  have hct := F.typeCall_set_1 (.ref l)
  repeat (any_goals (first | assumption | wp_step))
  refine codeAny_mono (code_set_led1 (.ref l) (E := E) (Q₁ := fun obj s₁ => obj = .ref s.heap.objs.size ∧ s₁ = { s with heap := s.heap.push (txNew w) }) ⟨rfl, rfl⟩) fun r s₁ hr => ?_
  cases r with
  | error e => exact hr
  | ok fl =>
    cases fl with
    | ret obj =>
      obtain ⟨rfl, rfl⟩ := hr
      have atS : (s.heap.push (txNew w)).get? s.heap.objs.size = some (txNew w) := Heap.get?_push_size _ rfl
      have hT : Shared.TypeIs { s with heap := s.heap.push (txNew w) } (.ref s.heap.objs.size) "set" := ⟨_, atS, rfl⟩
      have hli := F.called_set.init.lookup
      have hbi := F.called_set.init.bind (.ref s.heap.objs.size)
      repeat (any_goals (first | assumption | wp_step))
      refine codeAny_mono (codeAny_call_builtin (R := wants (fun r s₂ => r = .none ∧ ∃ h' tk, s₂ = { s with heap := h', toks := tk } ∧ TxSet P w h' s.heap.objs.size (once [] xs) ∧
          (∀ b o, s.heap.get? b = some o → h'.get? b = some o)) E) F.called_set.init.plain F.entry_set_init (check_set_init_1 hT ?_)) fun r₂ s₂ hr₂ => ?_
      · obtain ⟨ol, hol, hcl, nl, hdl⟩ := hl
        obtain ⟨ocls, odict, odata, oslots⟩ := ol
        simp only at hcl hdl
        subst hcl; subst hdl
        have old : (s.heap.push (txNew w)).get? l = some { cls := .type "list", dict := odict, data := .seq items nl, slots := oslots } := Heap.get?_push_of_some _ hol
        have hsls := F.sub_list_set
        have hslf := F.sub_list_frozenset
        have hne : (Value.type "list" == Value.type "dict") = false := by decide
        have hl1 : (s.heap.push (txNew w)).IsList l items := ⟨_, old, rfl, nl, rfl⟩
        unfold Builtin.«set.__init__» noKeywords Builtin.Frozenset.updateFrom
        generalize hPI : pyIter = PI
        wp_walk
        subst hPI
        refine wpAny_pyIter_list hl1 ?_
        refine wpAny_bind (wpAny_runValue ?_)
        have lS : l < s.heap.objs.size := Heap.lt_size hol
        have hh3 : A.in1.in1.in1.handled = none := by simp [hh]
        have apart : l ≠ (s.heap.push (txNew w)).objs.size := by
          rw [Heap.size_push]; exact Nat.ne_of_lt (Nat.lt_succ_of_lt lS)
        have notfp : s.heap.objs.size ∉ [(s.heap.push (txNew w)).objs.size, l] := by
          rw [Heap.size_push]; simp only [List.mem_cons, List.mem_singleton, List.not_mem_nil, or_false, not_or]
          exact ⟨Nat.ne_of_lt (Nat.lt_succ_self _), Nat.ne_of_gt lS⟩
        have hval : ∀ (i : Nat) (v : Value), items[i]? = some v → ∃ x t, xs[i]? = some x ∧ v = .str x t := fun i v hv => txs_at hit i v (by rw [Array.getElem?_toList]; exact hv)
        have at0 : ((s.heap.push (txNew w)).push { cls := .type "list_iterator", data := .fields #[.ref l, .int 0 0] }).get? s.heap.objs.size = some (txNew w) := Heap.get?_push_of_some _ atS
        refine tx_loop ((Walks.list hh3 _ l apart items).toS) s.heap.objs.size notfp xs isz hval (items.size - 0) 0 [] _ (by omega) (Nat.zero_le _)
          ⟨⟨_, Heap.get?_push_size _ rfl, rfl, rfl⟩, (hl1.push _)⟩ (txNew_at at0) (by rw [isz]; simpa using hb) fun s' hm hS => ?_
        obtain ⟨h', g2, d', tk', os'⟩ := s'
        have eg : g2 = s.gens := hm.gens
        have ed : d' = s.drawn := hm.drawn
        have eo : os' = s.os := hm.os
        subst eg; subst ed; subst eo
        show wpAny _ _ _ _ _ _
        refine wpAny_pure ?_
        show wpAny _ _ (ret Value.none) _ _ _
        refine wpAny_pure ⟨rfl, h', tk', rfl, hS, fun b o e => ?_⟩
        have b0 : b < s.heap.objs.size := Heap.lt_size e
        have b1 : b ≠ s.heap.objs.size := Nat.ne_of_lt b0
        have b2 : b ≠ (s.heap.push (txNew w)).objs.size := by
          rw [Heap.size_push]; exact Nat.ne_of_lt (Nat.lt_succ_of_lt b0)
        exact hm.heap b o (by simp only [List.mem_cons, List.mem_singleton, List.not_mem_nil, or_false, not_or]; exact ⟨b1, b2⟩) (Heap.get?_push_of_some _ (Heap.get?_push_of_some _ e))
      · cases r₂ with
        | error e => exact hr₂
        | ok fl₂ =>
          cases fl₂ with
          | ret r =>
            obtain ⟨rfl, h', tk, rfl, hS, kp⟩ := hr₂
            repeat (any_goals (first | assumption | wp_step))
            exact fin _ _ hS kp
          | _ => exact hr₂.elim
    | _ => exact hr.elim

theorem txs_of : ∀ (l : List Value), (∀ v ∈ l, ∃ tk, v = Value.str (tagOf v) tk) → StrsAre l (l.map tagOf)
  | [], _ => .nil
  | v :: l, h => by
    obtain ⟨tk, e⟩ := h v List.mem_cons_self
    rw [List.map_cons]
    generalize tagOf v = x at e ⊢
    subst e
    exact .cons x tk (txs_of l fun u hu => h u (List.mem_cons_of_mem _ hu))

/-- sorted(a set of texts) -/
theorem tx_sorted {a : Addr} {l : List Str} {Q : Value → Shared → Prop} (R : TxSet P w s.heap a l) (hh : A.handled = none) (h64 : l.length < 64)
    (fin : ∀ s' p (out : Array Value) (c : Nat) (ys : List Str), (∀ b o, s.heap.get? b = some o → s'.heap.get? b = some o) → s'.gens = s.gens → s'.os = s.os → s.heap.objs.size ≤ p →
      s'.heap.get? p = some (seqObj "list" out c) → StrsAre out.toList ys → ys.Perm l → sortedS ys = true → Q (.ref p) s') :
    wpAny (model P w) A (call (.builtin "sorted") [.ref a]) Q E s := by
  obtain ⟨o, es, ep, t, ho, hex, hd, g, hp, nd, hb, hf, hr, hl⟩ := R
  refine Calls.call_function_entry kind_sorted plain_sorted entry_sorted (args_sorted1 _) ?_
  unfold Builtin.«sorted»
  refine wpAny_bind (m := checkCount "sorted" 1 1 _) (wpAny_pure ?_)
  refine wpAny_bind (collect_set (A := A.in1) hh ⟨o, ho, hex.1, hd⟩ hf hb hr hl fun s1 vs k1 hz g1 o1 pm => ?_)
  have hS : StrsAre vs (vs.map tagOf) := txs_of vs fun v hv => by
    obtain ⟨e, he, q⟩ := List.mem_map.mp (pm.mem_iff.mp hv)
    obtain ⟨tk, h1, _⟩ := g e he
    rw [← q]
    exact ⟨tk, h1⟩
  have pk : (vs.map tagOf).Perm l := by
    have q := pm.map tagOf
    rw [List.map_map] at q
    exact q.trans hp
  have hvl : vs.length = l.length := by rw [← pk.length_eq, List.length_map]
  refine wpAny_bind (wpAny_newList ?_ (by rw [hvl, sizeLine_eq]; omega))
  have hoL : (s1.heap.push (seqObj "list" vs.toArray 0)).get? s1.heap.objs.size = some (seqObj "list" vs.toArray 0) := Heap.get?_push_size _ rfl
  refine wpAny_bind (wpAny_holding (wpAny_call_entry slot_list_sort ⟨_, hoL, rfl⟩ entry_list_sort
    (list_sort_treeK strKind_oneLt hoL hS.keysOf (fun v₁ v₂ rest e => keyKind_strs (by rw [← e]; exact hS)) (by rw [hvl]; exact h64) fun st' a1 a2 => ⟨_, rfl, ?_⟩) (args_list_sort _)))
  obtain ⟨ys, b1, b2, b3⟩ := sorted_out_str hS a1 a2
  obtain ⟨c, hc⟩ := sortedHeap_at (vs := vs) (out := (arrOf st').map (·.2)) hoL
  refine wpAny_pure ⟨_, rfl, fin _ s1.heap.objs.size _ c ys (fun b u e => ?_) g1 o1 hz hc b1 (b2.trans pk) b3⟩
  have q := k1 b u e
  have hlt := Heap.lt_size q
  show (sortedHeap (s1.heap.push (seqObj "list" vs.toArray 0)) s1.heap.objs.size vs _).get? b = some u
  rw [sortedHeap_old (Nat.ne_of_lt hlt) (by rw [size_push']; exact Nat.lt_succ_of_lt hlt)]
  exact Heap.get?_push_of_some _ q
end

end L2
namespace L2
open PySem PySem.Spec PyProof.Rows
/-! over the abstract heap -/
def SetS (P : Program) (w : World) (a : Addr) (l : List Str) : HO := .ext fun h => TxSet P w h a l
section
variable {X : Cx}
def rSetS (X : Cx) : List V → Hp → VK → Prop := fun vs H Q => ∃ (a : Addr) (xs : List Str), vs = [V.ref a] ∧ (SqL X.K H a (xs.map V.str) ∨ SqT X.K H a (xs.map V.str)) ∧ xs.length + 1 < scanBound ∧
  ∀ p, H p = none → Q (.ref p) (upd H p (SetS X.prog X.w p (once [] xs)))
theorem cr_setS (hc : X.calm = true) : CallR X (.type "set") (rSetS X) := by
  intro pins s σ H vs us Q I r h
  obtain ⟨a, xs, rfl, hs, hb, q⟩ := h
  rw [Vals.ref1 r]
  have key : ∀ (h' : Heap) (tk : Nat), TxSet X.prog X.w h' s.heap.objs.size (once [] xs) → (∀ b o, s.heap.get? b = some o → h'.get? b = some o) →
      EP X pins σ Q (.ref s.heap.objs.size) { s with heap := h', toks := tk } := fun h' tk R k => by
    have hn : H s.heap.objs.size = none := I.hok.fresh (Nat.le_refl _)
    refine ⟨.ref _, _, I.laid (t' := tk) k (Nat.le_refl _) ?_, rfl, q _ hn⟩
    refine ⟨R, ?_, fun h1 h2 z kk => z.stay kk⟩
    obtain ⟨o, _, _, _, ho, _⟩ := R
    exact ⟨o, ho⟩
  rcases hs with hs | hs
  · obtain ⟨its, rv, hl, _⟩ := I.list hs
    exact tx_call_list xs (I.ok.hd hc) hl.isList rv.strs hb key
  · obtain ⟨its, rv, hl, _⟩ := I.tuple hs
    exact tx_call_tuple xs (I.ok.hd hc) (show s.heap.IsTuple a its.toArray from hl) rv.strs hb key
def rSortedSetS (X : Cx) : List V → Hp → VK → Prop := fun vs H Q => ∃ (a : Addr) (l : List Str), vs = [V.ref a] ∧ H a = some (SetS X.prog X.w a l) ∧ l.length < 64 ∧
  ∀ (ys : List Str) (p : Addr), ys.Perm l → sortedS ys = true → H p = none → Q (.ref p) (upd H p (.lst (ys.map V.str)))
theorem cr_sortedSetS (hc : X.calm = true) : CallR X (.builtin "sorted") (rSortedSetS X) := by
  intro pins s σ H vs us Q I r h
  obtain ⟨a, l, rfl, ha, h64, q⟩ := h
  have R : TxSet X.prog X.w s.heap a l := (I.hok a _ ha).1
  rw [Vals.ref1 r]
  refine tx_sorted R (I.ok.hd hc) h64 fun s' p out c ys k g o hp hg hi hs hm => ?_
  have hlen : (ys.map V.str).length ≤ sizeLine := by rw [List.length_map, hs.length_eq, sizeLine_eq]; omega
  have hn : H p = none := I.hok.fresh hp
  have J : Inv X pins σ (upd H p (.lst (ys.map V.str))) { s with heap := s'.heap, gens := s'.gens, drawn := s'.drawn, toks := s'.toks } :=
    I.call (ch := []) (Un.laid k hp hn) (I.hok.laid k hp ⟨hlen, out.toList, c, vals_of_strs hi, hg⟩) (by rw [g]; exact I.bare) (fun _ z => nomatch z)
  have e : s' = { s with heap := s'.heap, gens := s'.gens, drawn := s'.drawn, toks := s'.toks } := by
    cases s'
    cases s
    cases o
    rfl
  rw [e]
  exact ⟨.ref p, _, J, rfl, q ys p hs hm hn⟩
end
end L2
/-! what all the laws' proofs share: the list that draws, data, names -/
namespace L2
open PySem PySem.Spec PyProof.Rows
section
variable {X : Cx} {CX : CXT} {k : Nat} {f : Addr} {fd : FuncData} {ps ks : List Str} {sp : Sp} {E : XK} {x : Str} {p pos : Pos} {kws : List Keyword} {tk : TA} {g : List Value → List Value → List Value} {gV : List V → List V → List V}
/-- f(k = v, ..), no argument by place -/
theorem pe_callK0 (F : FnOk X.prog X.w X.K X.mg X.base CX k f fd ps sp) (hr : Room k X.A) (hg : Gl X x) (hm : X.mg x = some (.ref f)) (hk : PySem.W.keepIn X.K (.ref f) = true) (hb : KBinds X.K fd ps ks g gV) (hx : Passes CX X E)
    (hkw : PK X kws tk) (hall : (backToKw pos (keywordEach kws X.env)).all (·.1.isSome) = true := by rfl) (hks : (backToKw pos (keywordEach kws X.env)).filterMap (·.1) = ks := by rfl)
    (hdb : (x == ("__debug__" : Str)) = false := by decide) (hpl : ((backTo pos (starEach [] X.env)).any (·.1) || (backToKw pos (keywordEach kws X.env)).any (·.1.isNone)) = false := by rfl) :
    PE X (.Call (.Name x p) [] kws pos) (tCallK sp gV E tNil tk) := by
  refine ⟨fun pins s σ H Q I h => ?_⟩
  refine wpAny_Call_Name_kw (ld_glob I hg hm ?_ hdb)
  refine PySem.W.callWith_KW0 (h₀ := X.base) I.ok.mod.kin hk hall ?_ hpl
  refine thn (hkw.run pos pins s σ H _ I h) fun ws s2 ⟨zs, H2, I2, rz, q2⟩ => ⟨I2.kIn, ?_⟩
  rw [hks]
  exact run_fnk (us := []) (vs := []) F hr hb hx I2 .nil rz q2
end
end L2

namespace Th
open PySem PySem.Spec PyProof.Rows L2

/-! ### heaps: what stands, but for one list -/
def hid (p : Addr) (H : Hp) : Hp := fun a => if a = p then none else H a
theorem hid_ne {p a : Addr} {H : Hp} (h : a ≠ p) : hid p H a = H a := if_neg h
theorem hid_self {p : Addr} {H : Hp} : hid p H p = none := if_pos rfl
theorem hid_some {p a : Addr} {H : Hp} {o : HO} (h : hid p H a = some o) : a ≠ p ∧ H a = some o := by
  by_cases e : a = p
  · subst e
    rw [hid_self] at h
    cases h
  · rw [hid_ne e] at h
    exact ⟨e, h⟩
theorem hid_same {p : Addr} {H : Hp} : Same (hid p H) H := fun a o h => (hid_some h).2
theorem same_new {H : Hp} {p : Addr} {o : HO} (h : H p = none) : Same H (upd H p o) := fun b x e => by
  rw [upd_ne (ne_of_none e h)]
  exact e
theorem same_mut {H H' : Hp} {q : Addr} {o : HO} (e : Same H H') (h : H q = none) : Same H (upd H' q o) := fun a u ha => by
  rw [upd_ne (ne_of_none ha h)]
  exact e a u ha

/-- the list that draws: where it stands, where its script stands, the script -/
structure DS where
  p : Addr
  l : Addr
  ns : List Int
structure Drw (D : DS) (H : Hp) : Prop where
  ne : D.l ≠ D.p
  sc : H D.l = some (.lst (D.ns.map V.int))
  few : D.ns.length ≤ 63
  st : ∃ i v m c : Int, H D.p = some (.lst [.ref D.l, .int i, .int v, .int m, .int c]) ∧ 0 ≤ i ∧ 0 ≤ v ∧ 0 ≤ m ∧ m < 2147483648 ∧ 0 ≤ c
theorem Drw.new {D : DS} {H : Hp} {q : Addr} {o : HO} (d : Drw D H) (h : H q = none) : Drw D (upd H q o) := by
  obtain ⟨ne, sc, few, i, v, m, c, st, r⟩ := d
  exact ⟨ne, by rw [upd_ne (ne_of_none sc h)]; exact sc, few, i, v, m, c, by rw [upd_ne (ne_of_none st h)]; exact st, r⟩
theorem Drw.at {D : DS} {H : Hp} (d : Drw D H) : ∃ o, H D.p = some o := by
  obtain ⟨_, _, _, i, v, m, c, st, _⟩ := d
  exact ⟨_, st⟩
structure Go (D : DS) (H H' : Hp) : Prop where
  sm : Same (hid D.p H) (hid D.p H')
  st : Drw D H'
theorem Go.refl {D : DS} {H : Hp} (d : Drw D H) : Go D H H := ⟨Same.refl _, d⟩
theorem Go.trans {D : DS} {H H1 H2 : Hp} (a : Go D H H1) (b : Go D H1 H2) : Go D H H2 := ⟨a.sm.trans b.sm, b.st⟩
theorem Go.of {D : DS} {H H' : Hp} (d : Drw D H) (s : Same H H') : Go D H H' := by
  refine ⟨fun a o h => ?_, ?_⟩
  · obtain ⟨e, h⟩ := hid_some h
    rw [hid_ne e]
    exact s a o h
  · obtain ⟨ne, sc, few, i, v, m, c, st, r⟩ := d
    exact ⟨ne, s _ _ sc, few, i, v, m, c, s _ _ st, r⟩
theorem Go.new {D : DS} {H H' : Hp} {q : Addr} {o : HO} (g : Go D H H') (h : H' q = none) : Go D H (upd H' q o) := g.trans (.of g.st (same_new h))
/-- a thing that did not stand ahead may change -/
theorem Go.mut {D : DS} {H H' : Hp} {q : Addr} {o : HO} (g : Go D H H') (d : Drw D H) (h : H q = none) : Go D H (upd H' q o) := by
  have np : q ≠ D.p := fun e => by
    obtain ⟨u, hu⟩ := d.at
    rw [← e, h] at hu
    cases hu
  refine ⟨fun a u ha => ?_, ?_⟩
  · obtain ⟨e, ha'⟩ := hid_some ha
    have q1 := g.sm a u ha
    rw [hid_ne e] at q1 ⊢
    rw [upd_ne (ne_of_none ha' h)]
    exact q1
  · obtain ⟨ne, sc, few, i, v, m, c, st, r⟩ := g.st
    exact ⟨ne, by rw [upd_ne (ne_of_none d.sc h)]; exact sc, few, i, v, m, c, by rw [upd_ne np.symm]; exact st, r⟩
theorem Go.free {D : DS} {H H' : Hp} {q : Addr} (g : Go D H H') (d : Drw D H) (h : H' q = none) : H q = none := by
  cases e : H q with
  | none => rfl
  | some o =>
    by_cases z : q = D.p
    · obtain ⟨u, hu⟩ := g.st.at
      rw [← z, h] at hu
      cases hu
    · have q1 := g.sm q o (by rw [hid_ne z]; exact e)
      rw [hid_ne z, h] at q1
      cases q1
theorem Go.old {D : DS} {H H' : Hp} {q : Addr} {o : HO} (g : Go D H H') (z : q ≠ D.p) (h : H q = some o) : H' q = some o := by
  have q1 := g.sm q o (by rw [hid_ne z]; exact h)
  rw [hid_ne z] at q1
  exact q1
theorem Drw.ne_new {D : DS} {H : Hp} {q : Addr} (d : Drw D H) (h : H q = none) : q ≠ D.p := fun e => by
  obtain ⟨u, hu⟩ := d.at
  rw [← e, h] at hu
  cases hu

/-! ### data -/
mutual
inductive Da (K : PySem.W.Frag) (H : Hp) : V → PyData → Prop
  | non : Da K H .non .none
  | bl (b : Bool) : Da K H (.bl b) (.bool b)
  | int (i : Int) : Da K H (.int i) (.int i)
  | str (x : Str) : Da K H (.str x) (.str x)
  | lst {a : Addr} {xs : List V} {ds : List PyData} : SqL K H a xs → TyX K H (.ref a) (.type "list") → DaAll K H xs ds → Da K H (.ref a) (.list ds)
  | tup {a : Addr} {xs : List V} {ds : List PyData} : SqT K H a xs → TyX K H (.ref a) (.type "tuple") → DaAll K H xs ds → Da K H (.ref a) (.tuple ds)
inductive DaAll (K : PySem.W.Frag) (H : Hp) : List V → List PyData → Prop
  | nil : DaAll K H [] []
  | cons {v : V} {vs : List V} {d : PyData} {ds : List PyData} : Da K H v d → DaAll K H vs ds → DaAll K H (v :: vs) (d :: ds)
end
theorem same_rd {H H' : Hp} {a : Addr} {u : HO} (e : Same H H') (h : Rd H a u) : Rd H' a u := by
  rcases h with h | ⟨o, h⟩
  · exact .inl (e a _ h)
  · exact .inr ⟨o, e a _ h⟩
theorem same_t {K : PySem.W.Frag} {H H' : Hp} {a : Addr} {xs : List V} (e : Same H H') (h : SqT K H a xs) : SqT K H' a xs := by
  rcases h with h | h
  · exact .inl (same_rd e h)
  · exact .inr h
theorem ty_same {K : PySem.W.Frag} {H H' : Hp} {v : V} {t : Value} (e : Same H H') (h : TyX K H v t) : TyX K H' v t := by
  cases h with
  | base b =>
    refine .base ?_
    cases b with
    | non => exact .non
    | bl x => exact .bl x
    | int i => exact .int i
    | str x => exact .str x
    | flt x => exact .flt x
    | lst h => exact .lst (e _ _ h)
    | frz h => exact .frz (e _ _ h)
    | tup h => exact .tup (e _ _ h)
    | dK h => exact .dK (e _ _ h)
    | dT h => exact .dT (e _ _ h)
    | ins h cl ha hn htk hm => exact .ins (e _ _ h) cl ha hn htk hm
  | byt b => exact .byt b
  | set h => exact .set (e _ _ h)
  | kList h c => exact .kList h c
  | kTuple h c => exact .kTuple h c
  | kDict h c => exact .kDict h c
  | fTuple h => exact .fTuple (e _ _ h)
  | fDict h => exact .fDict (e _ _ h)
section
variable {K : PySem.W.Frag} {H H' : Hp}
mutual
theorem Da.mono (e : Same H H') : ∀ (d : PyData) (v : V), Da K H v d → Da K H' v d
  | .none, _, h => by
    cases h
    exact .non
  | .bool b, _, h => by
    cases h
    exact .bl b
  | .int i, _, h => by
    cases h
    exact .int i
  | .str x, _, h => by
    cases h
    exact .str x
  | .list ds, _, h => by
    cases h with
    | lst hs ht ha => exact .lst (e.seq hs) (ty_same e ht) (DaAll.mono e ds _ ha)
  | .tuple ds, _, h => by
    cases h with
    | tup hs ht ha => exact .tup (same_t e hs) (ty_same e ht) (DaAll.mono e ds _ ha)
  | .dict _, _, h => by cases h
theorem DaAll.mono (e : Same H H') : ∀ (ds : List PyData) (vs : List V), DaAll K H vs ds → DaAll K H' vs ds
  | [], _, h => by
    cases h
    exact .nil
  | d :: ds, _, h => by
    cases h with
    | cons h1 h2 => exact .cons (Da.mono e d _ h1) (DaAll.mono e ds _ h2)
end
mutual
theorem Da.dp : ∀ (d : PyData) (v : V), Da K H v d → Dp K H v d
  | .none, _, h => by
    cases h
    exact .non
  | .bool b, _, h => by
    cases h
    exact .bl b
  | .int i, _, h => by
    cases h
    exact .int i
  | .str x, _, h => by
    cases h
    exact .str x
  | .list ds, _, h => by
    cases h with
    | lst hs ht ha => exact .lst hs (DaAll.dp ds _ ha)
  | .tuple ds, _, h => by
    cases h with
    | tup hs ht ha => exact .tup hs (DaAll.dp ds _ ha)
  | .dict _, _, h => by cases h
theorem DaAll.dp : ∀ (ds : List PyData) (vs : List V), DaAll K H vs ds → DpAll K H vs ds
  | [], _, h => by
    cases h
    exact .nil
  | d :: ds, _, h => by
    cases h with
    | cons h1 h2 => exact .cons (Da.dp d _ h1) (DaAll.dp ds _ h2)
end
theorem Da.to (h : Da K H v d) (e : Same H H') : Da K H' v d := Da.mono e d v h
theorem DaAll.to (h : DaAll K H vs ds) (e : Same H H') : DaAll K H' vs ds := DaAll.mono e ds vs h
theorem DaAll.len : ∀ {vs : List V} {ds : List PyData}, DaAll K H vs ds → vs.length = ds.length
  | _, _, .nil => rfl
  | _, _, .cons _ r => congrArg Nat.succ r.len
theorem DaAll.at : ∀ {vs : List V} {ds : List PyData} {i : Nat} {v : V}, DaAll K H vs ds → vs[i]? = some v → ∃ d, ds[i]? = some d ∧ Da K H v d
  | _, _, _, _, .nil, h => by simp at h
  | _, _, 0, v, .cons h _, e => ⟨_, rfl, by simp at e; rw [← e]; exact h⟩
  | _, _, i + 1, v, .cons _ r, e => by
    simp only [List.getElem?_cons_succ] at e
    obtain ⟨d, h1, h2⟩ := r.at e
    exact ⟨d, by simpa using h1, h2⟩
theorem DaAll.at' {vs : List V} {ds : List PyData} {i : Nat} {d : PyData} (h : DaAll K H vs ds) (e : ds[i]? = some d) : ∃ v, vs[i]? = some v ∧ Da K H v d := by
  obtain ⟨hi, _⟩ := List.getElem?_eq_some_iff.mp e
  have hv : i < vs.length := by rw [h.len]; exact hi
  obtain ⟨d', e', q⟩ := h.at (List.getElem?_eq_getElem hv)
  rw [e] at e'
  cases e'
  exact ⟨_, List.getElem?_eq_getElem hv, q⟩
theorem DaAll.app : ∀ {vs ws : List V} {ds es : List PyData}, DaAll K H vs ds → DaAll K H ws es → DaAll K H (vs ++ ws) (ds ++ es)
  | _, _, _, _, .nil, r => r
  | _, _, _, _, .cons h t, r => .cons h (t.app r)
theorem DaAll.take : ∀ {vs : List V} {ds : List PyData} (n : Nat), DaAll K H vs ds → DaAll K H (vs.take n) (ds.take n)
  | _, _, 0, _ => .nil
  | _, _, n + 1, .nil => .nil
  | _, _, n + 1, .cons h t => .cons h (t.take n)
theorem DaAll.drop : ∀ {vs : List V} {ds : List PyData} (n : Nat), DaAll K H vs ds → DaAll K H (vs.drop n) (ds.drop n)
  | _, _, 0, h => h
  | _, _, n + 1, .nil => .nil
  | _, _, n + 1, .cons h t => t.drop n
theorem DaAll.strs : ∀ xs : List Str, DaAll K H (xs.map V.str) (xs.map PyData.str)
  | [] => .nil
  | x :: r => .cons (.str x) (DaAll.strs r)
theorem DaAll.bls : ∀ xs : List Bool, DaAll K H (xs.map V.bl) (xs.map PyData.bool)
  | [] => .nil
  | x :: r => .cons (.bl x) (DaAll.bls r)
/-- a value of data that is all texts: the texts -/
theorem DaAll.isStrs : ∀ {vs : List V} {xs : List Str}, DaAll K H vs (xs.map PyData.str) → vs = xs.map V.str
  | _, [], h => by
    cases h
    rfl
  | _, x :: r, h => by
    cases h with
    | cons h1 h2 =>
      cases h1
      rw [h2.isStrs]
      rfl
theorem Da.newT {H : Hp} {q : Addr} {xs : List V} {ds : List PyData} (h : H q = some (.tup xs)) (r : DaAll K H xs ds) : Da K H (.ref q) (.tuple ds) := .tup (.inl (.inl h)) (.base (.tup h)) r
theorem Da.newL {H : Hp} {q : Addr} {xs : List V} {ds : List PyData} (h : H q = some (.lst xs)) (r : DaAll K H xs ds) : Da K H (.ref q) (.list ds) := .lst (.inl (.inl h)) (.base (.lst h)) r
end
/-- the class of a datum -/
def tyD : PyData → String
  | .none => "NoneType" | .bool _ => "bool" | .int _ => "int" | .str _ => "str" | .list _ => "list" | .tuple _ => "tuple" | .dict _ => "dict"
theorem Da.ty {K : PySem.W.Frag} {H : Hp} {v : V} {d : PyData} (h : Da K H v d) : TyX K H v (.type (tyD d)) := by
  cases h with
  | non => exact .base .non
  | bl b => exact .base (.bl b)
  | int i => exact .base (.int i)
  | str x => exact .base (.str x)
  | lst _ t _ => exact t
  | tup _ t _ => exact t
theorem kit_str (d : PyData) (h : tyD d ≠ "dict") : kitB (tyD d) "str" = some (decide (tyD d = "str")) := by
  cases d with
  | none => exact (by decide +kernel : kitB "NoneType" "str" = some (decide ("NoneType" = "str")))
  | bool b => exact (by decide +kernel : kitB "bool" "str" = some (decide ("bool" = "str")))
  | int i => exact (by decide +kernel : kitB "int" "str" = some (decide ("int" = "str")))
  | str x => exact (by decide +kernel : kitB "str" "str" = some (decide ("str" = "str")))
  | list xs => exact (by decide +kernel : kitB "list" "str" = some (decide ("list" = "str")))
  | tuple xs => exact (by decide +kernel : kitB "tuple" "str" = some (decide ("tuple" = "str")))
  | dict kvs => exact absurd rfl h
theorem kit_int (d : PyData) (h : tyD d ≠ "dict") : kitB (tyD d) "int" = some (decide (tyD d = "int" ∨ tyD d = "bool")) := by
  cases d with
  | none => exact (by decide +kernel : kitB "NoneType" "int" = some (decide ("NoneType" = "int" ∨ "NoneType" = "bool")))
  | bool b => exact (by decide +kernel : kitB "bool" "int" = some (decide ("bool" = "int" ∨ "bool" = "bool")))
  | int i => exact (by decide +kernel : kitB "int" "int" = some (decide ("int" = "int" ∨ "int" = "bool")))
  | str x => exact (by decide +kernel : kitB "str" "int" = some (decide ("str" = "int" ∨ "str" = "bool")))
  | list xs => exact (by decide +kernel : kitB "list" "int" = some (decide ("list" = "int" ∨ "list" = "bool")))
  | tuple xs => exact (by decide +kernel : kitB "tuple" "int" = some (decide ("tuple" = "int" ∨ "tuple" = "bool")))
  | dict kvs => exact absurd rfl h
theorem kit_bool (d : PyData) (h : tyD d ≠ "dict") : kitB (tyD d) "bool" = some (decide (tyD d = "bool")) := by
  cases d with
  | none => exact (by decide +kernel : kitB "NoneType" "bool" = some (decide ("NoneType" = "bool")))
  | bool b => exact (by decide +kernel : kitB "bool" "bool" = some (decide ("bool" = "bool")))
  | int i => exact (by decide +kernel : kitB "int" "bool" = some (decide ("int" = "bool")))
  | str x => exact (by decide +kernel : kitB "str" "bool" = some (decide ("str" = "bool")))
  | list xs => exact (by decide +kernel : kitB "list" "bool" = some (decide ("list" = "bool")))
  | tuple xs => exact (by decide +kernel : kitB "tuple" "bool" = some (decide ("tuple" = "bool")))
  | dict kvs => exact absurd rfl h
theorem kit_list (d : PyData) (h : tyD d ≠ "dict") : kitB (tyD d) "list" = some (decide (tyD d = "list")) := by
  cases d with
  | none => exact (by decide +kernel : kitB "NoneType" "list" = some (decide ("NoneType" = "list")))
  | bool b => exact (by decide +kernel : kitB "bool" "list" = some (decide ("bool" = "list")))
  | int i => exact (by decide +kernel : kitB "int" "list" = some (decide ("int" = "list")))
  | str x => exact (by decide +kernel : kitB "str" "list" = some (decide ("str" = "list")))
  | list xs => exact (by decide +kernel : kitB "list" "list" = some (decide ("list" = "list")))
  | tuple xs => exact (by decide +kernel : kitB "tuple" "list" = some (decide ("tuple" = "list")))
  | dict kvs => exact absurd rfl h
theorem kit_tuple (d : PyData) (h : tyD d ≠ "dict") : kitB (tyD d) "tuple" = some (decide (tyD d = "tuple")) := by
  cases d with
  | none => exact (by decide +kernel : kitB "NoneType" "tuple" = some (decide ("NoneType" = "tuple")))
  | bool b => exact (by decide +kernel : kitB "bool" "tuple" = some (decide ("bool" = "tuple")))
  | int i => exact (by decide +kernel : kitB "int" "tuple" = some (decide ("int" = "tuple")))
  | str x => exact (by decide +kernel : kitB "str" "tuple" = some (decide ("str" = "tuple")))
  | list xs => exact (by decide +kernel : kitB "list" "tuple" = some (decide ("list" = "tuple")))
  | tuple xs => exact (by decide +kernel : kitB "tuple" "tuple" = some (decide ("tuple" = "tuple")))
  | dict kvs => exact absurd rfl h
theorem Da.nodict {K : PySem.W.Frag} {H : Hp} {v : V} {d : PyData} (h : Da K H v d) : tyD d ≠ "dict" := by
  cases h with
  | non => exact (by decide : ("NoneType" : String) ≠ "dict")
  | bl b => exact (by decide : ("bool" : String) ≠ "dict")
  | int i => exact (by decide : ("int" : String) ≠ "dict")
  | str x => exact (by decide : ("str" : String) ≠ "dict")
  | lst _ _ _ => exact (by decide : ("list" : String) ≠ "dict")
  | tup _ _ _ => exact (by decide : ("tuple" : String) ≠ "dict")
end Th
namespace Th
open PySem PySem.Spec PyProof.Rows L2
/-! ### a def that stands at a name of the text and keeps a promise -/
/-- the built-in names are still the built-ins -/
structure Zs (mg : Str → Option Value) : Prop where
  len_ : mg "len" = none
  range_ : mg "range" = none
  int_ : mg "int" = none
  abs_ : mg "abs" = none
  isinstance_ : mg "isinstance" = none
  all_ : mg "all" = none
  any_ : mg "any" = none
  sorted_ : mg "sorted" = none
  set_ : mg "set" = none
  list_ : mg "list" = none
  tuple_ : mg "tuple" = none
  str_ : mg "str" = none
  bool_ : mg "bool" = none
  enumerate_ : mg "enumerate" = none
  min_ : mg "min" = none
  max_ : mg "max" = none
def At (K : PySem.W.Frag) (mg : Str → Option Value) (x : Str) (st : Stmt) (ps : List Str) : Prop :=
  ∃ (f : Addr) (fd : FuncData), Fun K x x st f fd ∧ mg x = some (.ref f) ∧ Binds K fd ps []
def Has (P : Program) (w : World) (K : PySem.W.Frag) (mg : Str → Option Value) (base : Heap) (x : Str) (st : Stmt) (k : Nat) (ps : List Str) (sp : Sp) : Prop :=
  ∃ (f : Addr) (fd : FuncData), FnOk P w K mg base CX0 k f fd ps sp ∧ mg x = some (.ref f) ∧ PySem.W.keepIn K (.ref f) = true ∧ Binds K fd ps [] ∧ Fun K x x st f fd
theorem kb_of {K : PySem.W.Frag} {x qual : Str} {st : Stmt} {f : Addr} {fd : FuncData} {ps ks : List Str} {g : List Value → List Value → List Value} {gV : List V → List V → List V} (F : Fun K x qual st f fd)
    (hrel : ∀ {vs : List V} {us : List Value} {zs : List V} {ws : List Value}, Vals vs us → Vals zs ws → Vals (gV vs zs) (g us ws))
    (h : ∀ (kV doc pm : Value) (an : Option Addr) (cdv ct : Value) (us ws : List Value), (g us ws).length = ps.length → bindArgs (PySem.W.fnOf x qual (defArgs st) (defBody st) (defScope st) .none kV doc pm an cdv ct) ⟨us, ks.zip ws⟩ = pure (ps.zip (g us ws))) :
    KBinds K fd ps ks g gV := by
  obtain ⟨oc, od, kV, doc, pm, an, cdv, ct, osl, rfl, lk, hcd⟩ := F.ex
  exact ⟨fun s us ws X hl => .of_eq (h kV doc pm an cdv ct us ws hl), fun r1 r2 => hrel r1 r2⟩
/-- one argument, by its name -/
def g1 {α : Type} : List α → List α → List α
  | [], [a] => [a]
  | _, _ => []
theorem g1_rel {vs : List V} {us : List Value} {zs : List V} {ws : List Value} (r1 : Vals vs us) (r2 : Vals zs ws) : Vals (g1 vs zs) (g1 us ws) := by
  cases r1 with
  | nil =>
    cases r2 with
    | nil => exact .nil
    | cons r r2 =>
      cases r2 with
      | nil => exact .cons r .nil
      | cons _ _ => exact .nil
  | cons _ _ =>
    cases r2 <;> exact .nil
/-- two arguments by their names, in the other order -/
def g2 {α : Type} : List α → List α → List α
  | [], [a, b] => [b, a]
  | _, _ => []
theorem g2_rel {vs : List V} {us : List Value} {zs : List V} {ws : List Value} (r1 : Vals vs us) (r2 : Vals zs ws) : Vals (g2 vs zs) (g2 us ws) := by
  cases r1 with
  | nil =>
    cases r2 with
    | nil => exact .nil
    | cons r r2 =>
      cases r2 with
      | nil => exact .nil
      | cons q r3 =>
        cases r3 with
        | nil => exact .cons q (.cons r .nil)
        | cons _ _ => exact .nil
  | cons _ _ =>
    cases r2 <;> exact .nil

/-! ### small facts of lists -/
theorem cut_none (xs : List V) (h : xs.length ≤ 63) : cutV xs none (some 63) = xs := by
  unfold cutV
  rw [HT.sIx_none, show HT.sIx xs.length xs.length (some 63) = min 63 xs.length from HT.sIx_nat xs.length xs.length 63]
  show List.take (min 63 xs.length - 0) (List.drop 0 xs) = xs
  rw [List.drop_zero, Nat.sub_zero, Nat.min_eq_right h, List.take_length]
theorem getmap {α β : Type} {f : α → β} {l : List α} {i : Nat} {y : β} (h : (l.map f)[i]? = some y) : ∃ x, l[i]? = some x ∧ f x = y := by
  rw [List.getElem?_map] at h
  cases e : l[i]? with
  | none =>
    rw [e] at h
    cases h
  | some x =>
    rw [e] at h
    exact ⟨x, rfl, Option.some.inj h⟩
theorem lt_of_get {α : Type} {l : List α} {i : Nat} {y : α} (h : l[i]? = some y) : i < l.length := (List.getElem?_eq_some_iff.mp h).1
theorem sline {n : Nat} (h : n ≤ 100000) : n ≤ sizeLine := Nat.le_trans h (by decide)
theorem slineL {n : Nat} (h : n < 100000) : n < sizeLine := Nat.lt_of_lt_of_le h (by decide)
theorem take_succ_map {α β : Type} {f : α → β} {l : List α} {i : Nat} {x : α} (h : l[i]? = some x) : ((l.take (i + 1)).map f) = (l.take i).map f ++ [f x] := by
  rw [List.take_add_one, h, List.map_append]
  rfl
theorem atI_of {xs : List V} {i : Int} {v : V} (h0 : 0 ≤ i) (h : xs[i.toNat]? = some v) : atI xs i = some v := by
  have e : i = ((i.toNat : Nat) : Int) := by omega
  rw [e]
  exact atI_nat h
end Th
namespace Th
def sgE (a b k : Nat) : Nat := (a + b * k % 26) % 26 + 26 * (k / 26)
theorem sgE_nodup : ∀ a, a < 26 → ∀ b ∈ [1, 3, 5, 7, 9, 11, 25], ((List.range 40).map (sgE a b)).Nodup := by decide +kernel
end Th
/-! texts and names -/
namespace Th
open PySem PySem.Spec PyProof.Rows L2
theorem nodup_at {α : Type} {l : List α} (h : l.Nodup) {i j : Nat} {x : α} (hi : l[i]? = some x) (hj : l[j]? = some x) : i = j := by
  obtain ⟨li, ei⟩ := List.getElem?_eq_some_iff.mp hi
  obtain ⟨lj, ej⟩ := List.getElem?_eq_some_iff.mp hj
  have q := List.pairwise_iff_getElem.mp h
  rcases Nat.lt_trichotomy i j with z | z | z
  · exact absurd (ei.trans ej.symm) (q i j li lj z)
  · exact z
  · exact absurd (ej.trans ei.symm) (q j i lj li z)
theorem nodup_sub {α : Type} [DecidableEq α] : ∀ {l m : List α}, l.Nodup → (∀ x ∈ l, x ∈ m) → l.length ≤ m.length
  | [], _, _, _ => Nat.zero_le _
  | x :: r, m, h, k => by
    obtain ⟨h1, h2⟩ := List.nodup_cons.mp h
    have hx := k x List.mem_cons_self
    have q : r.length ≤ (m.erase x).length := nodup_sub h2 fun y hy => by
      have ne : y ≠ x := fun e => h1 (e ▸ hy)
      exact (List.mem_erase_of_ne ne).mpr (k y (List.mem_cons_of_mem _ hy))
    rw [List.length_erase_of_mem hx] at q
    have p := List.length_pos_of_mem hx
    rw [List.length_cons]
    omega
def cs (x : Str) : List Nat := x.cps.toList
theorem cs_len (x : Str) : x.length = (cs x).length := (Array.length_toList).symm
theorem cs_inj {x y : Str} (h : cs x = cs y) : x = y := by
  cases x
  cases y
  exact congrArg Str.mk (Array.toList_inj.mp h)
theorem cs_app (x y : Str) : cs (x ++ y) = cs x ++ cs y := by
  show (x.cps ++ y.cps).toList = _
  rw [Array.toList_append]
  rfl
theorem cs_mk (l : List Nat) : cs ⟨l.toArray⟩ = l := rfl
theorem cs_join : ∀ ys : List Str, cs (Str.join Str.empty ys) = (ys.map cs).flatten
  | [] => rfl
  | [x] => by simp [Str.join]
  | x :: y :: r => by
    show cs (x ++ Str.empty ++ Str.join Str.empty (y :: r)) = _
    rw [cs_app, cs_app, cs_join (y :: r)]
    show cs x ++ [] ++ _ = _
    rw [List.append_nil]
    rfl
/-- the small letters -/
def abc : Str := "abcdefghijklmnopqrstuvwxyz"
theorem abc_len : (cs abc).length = 26 := by decide +kernel
theorem abc_nodup : (cs abc).Nodup := by decide +kernel
theorem abc_length : abc.length = 26 := by decide +kernel
/-- all signs are small letters -/
def Lw (x : Str) : Prop := ∀ c ∈ cs x, c ∈ cs abc
theorem Lw.app {x y : Str} (h : Lw x) (k : Lw y) : Lw (x ++ y) := fun c hc => by
  rw [cs_app] at hc
  rcases List.mem_append.mp hc with z | z
  · exact h c z
  · exact k c z
theorem Lw.sub {x y : Str} (h : Lw x) (k : ∀ c ∈ cs y, c ∈ cs x) : Lw y := fun c hc => h c (k c hc)
/-- a name -/
def isNm (x : Str) : Bool := decide (1 ≤ x.length) && decide (x.length ≤ 6) && (cs x).all fun c => decide (c ∈ cs abc)
theorem isNm_iff {x : Str} : isNm x = true ↔ 1 ≤ x.length ∧ x.length ≤ 6 ∧ Lw x := by
  unfold isNm
  rw [Bool.and_eq_true, Bool.and_eq_true, decide_eq_true_eq, decide_eq_true_eq, List.all_eq_true]
  constructor
  · rintro ⟨⟨a, b⟩, c⟩
    exact ⟨a, b, fun z hz => of_decide_eq_true (c z hz)⟩
  · rintro ⟨a, b, c⟩
    exact ⟨⟨a, b⟩, fun z hz => decide_eq_true (c z hz)⟩
theorem isNm_len {x : Str} (h : isNm x = true) : x.length ≤ 6 := (isNm_iff.mp h).2.1
/-- the k-th letter -/
def let_ (k : Nat) : Nat := (cs abc).getD k 0
theorem let_at {k : Nat} (h : k < 26) : (cs abc)[k]? = some (let_ k) := by
  have h' : k < (cs abc).length := by rw [abc_len]; exact h
  unfold let_
  rw [List.getD_eq_getElem?_getD, List.getElem?_eq_getElem h']
  rfl
theorem let_mem {k : Nat} (h : k < 26) : let_ k ∈ cs abc := List.mem_of_getElem? (let_at h)
theorem let_inj {i j : Nat} (hi : i < 26) (hj : j < 26) (h : let_ i = let_ j) : i = j := by
  have a := let_at hi
  have b := let_at hj
  rw [h] at a
  exact nodup_at abc_nodup a b
theorem atI_of' {xs : List Nat} {i : Int} {v : Nat} (h0 : 0 ≤ i) (h : xs[i.toNat]? = some v) : atI xs i = some v := by
  have e : i = ((i.toNat : Nat) : Int) := by omega
  rw [e]
  exact atI_nat h
theorem atI_let {k : Int} (h0 : 0 ≤ k) (h1 : k < 26) : atI abc.cps.toList k = some (let_ k.toNat) := atI_of' (xs := (cs abc)) h0 (let_at (by omega))
theorem sline_abc : abc.length ≤ sizeLine := by rw [abc_length]; decide
theorem sqh {K : PySem.W.Frag} {p q : Addr} {H : Hp} {xs : List V} (z : q ≠ p) (h : H q = some (.lst xs)) : SqL K (hid p H) q xs := .inl (.inl (by rw [hid_ne z]; exact h))
theorem sqhT {K : PySem.W.Frag} {p q : Addr} {H : Hp} {xs : List V} (z : q ≠ p) (h : H q = some (.tup xs)) : SqT K (hid p H) q xs := .inl (.inl (by rw [hid_ne z]; exact h))
theorem flatS (xs : List Str) : (xs.map V.str).all flatV = true := by
  rw [List.all_map, List.all_eq_true]
  exact fun _ _ => rfl
theorem inS (x : Str) (xs : List Str) : inV (.str x) (xs.map V.str) = decide (x ∈ xs) := by
  unfold inV
  rw [List.any_map, Bool.eq_iff_iff, List.any_eq_true, decide_eq_true_eq]
  constructor
  · rintro ⟨y, hy, e⟩
    have e' : y = x := beq_iff_eq.mp (show (y == x) = true from e)
    rw [← e']
    exact hy
  · intro hx
    exact ⟨x, hx, beq_self_eq_true x⟩
/-- len of a list or a tuple, by values -/
def rLn (K : PySem.W.Frag) : List V → Hp → VK → Prop := fun xs H Q => ∃ p ys, xs = [.ref p] ∧ (SqL K H p ys ∨ SqT K H p ys) ∧ Q (.int ys.length) H
theorem len_seqK {X : Cx} : CallR X (.builtin "len") (rLn X.K) := call_len_seq
theorem ixe (a b i : Nat) : ((a : Int) + ((b : Int) * ((0 : Int) + (i : Int))) % 26) % 26 = (((a + b * i % 26) % 26 : Nat) : Int) := by
  have e : (b : Int) * ((0 : Int) + (i : Int)) = ((b * i : Nat) : Int) := by rw [Int.zero_add, Int.natCast_mul]
  rw [e]
  omega
theorem stride_of {i : Nat} {v : V} (h : [V.int 1, .int 3, .int 5, .int 7, .int 9, .int 11, .int 25][i]? = some v) : ∃ b : Nat, b ∈ [1, 3, 5, 7, 9, 11, 25] ∧ b ≤ 25 ∧ v = .int (b : Int) := by
  have m := List.mem_of_getElem? h
  simp only [List.mem_cons, List.not_mem_nil, or_false] at m
  rcases m with e | e | e | e | e | e | e
  · exact ⟨1, by decide, by decide, e⟩
  · exact ⟨3, by decide, by decide, e⟩
  · exact ⟨5, by decide, by decide, e⟩
  · exact ⟨7, by decide, by decide, e⟩
  · exact ⟨9, by decide, by decide, e⟩
  · exact ⟨11, by decide, by decide, e⟩
  · exact ⟨25, by decide, by decide, e⟩
/-- the first letters of the signs -/
def sg1 (a b k : Nat) : Str := ⟨#[let_ ((a + b * k % 26) % 26)]⟩
theorem mapr {α : Type} (f : Nat → α) (n : Nat) : (List.range (n + 1)).map f = (List.range n).map f ++ [f n] := by
  rw [List.range_succ, List.map_append]
  rfl
theorem getr {α : Type} (f : Nat → α) {n k : Nat} (h : k < n) : ((List.range n).map f)[k]? = some (f k) := by
  rw [List.getElem?_map, List.getElem?_range h]
  rfl
def strV (v : V) : Str := match v with | .str x => x | _ => Str.empty
theorem perm_strs {ys : List V} {xs : List Str} (h : ys.Perm (xs.map V.str)) : ∃ zs : List Str, ys = zs.map V.str ∧ zs.Perm xs := by
  refine ⟨ys.map strV, ?_, ?_⟩
  · rw [List.map_map]
    refine (List.map_id ys).symm.trans (List.map_congr_left fun v hv => ?_)
    obtain ⟨x, _, rfl⟩ := List.mem_map.mp (h.mem_iff.mp hv)
    rfl
  · have q := h.map strV
    rw [List.map_map] at q
    have e : xs.map (strV ∘ V.str) = xs := (List.map_congr_left fun _ _ => rfl).trans (List.map_id xs)
    rw [e] at q
    exact q
theorem cut_to {n : Int} (xs : List V) (h : 0 ≤ n) : cutV xs none (some n) = xs.take n.toNat := by
  have e : n = ((n.toNat : Nat) : Int) := by omega
  unfold cutV
  rw [HT.sIx_none, e, HT.sIx_nat, List.drop_zero, Nat.sub_zero, Int.toNat_natCast, Nat.min_def]
  split
  · rfl
  · rw [List.take_length, List.take_of_length_le (by omega)]
/-! slices of texts -/
theorem cs_cut (z : Str) (lo hi : Option Int) : cs (cutS z lo hi) = ((cs z).drop (HT.sIx z.length 0 lo)).take (HT.sIx z.length z.length hi - HT.sIx z.length 0 lo) := rfl
theorem cs_cut_to (z : Str) (n : Int) (h : 0 ≤ n) : cs (cutS z none (some n)) = (cs z).take n.toNat := by
  have e : n = ((n.toNat : Nat) : Int) := by omega
  rw [cs_cut, HT.sIx_none, e, HT.sIx_nat, List.drop_zero, Nat.sub_zero, Int.toNat_natCast, Nat.min_def]
  split
  · rfl
  · rename_i hn
    rw [cs_len, List.take_length, List.take_of_length_le (by rw [← cs_len]; omega)]
theorem cs_cut_from (z : Str) (n : Int) (h : 0 ≤ n) (h2 : n ≤ z.length) : cs (cutS z (some n) none) = (cs z).drop n.toNat := by
  have e : n = ((n.toNat : Nat) : Int) := by omega
  rw [cs_cut, HT.sIx_none, e, HT.sIx_nat, Int.toNat_natCast, Nat.min_eq_left (by omega)]
  rw [cs_len, ← List.length_drop, List.take_length]
/-! the signs of names: the letter at (first + stride * k % 26) % 26, and a second one from 26 on -/
def sgn (a b : Nat) (k : Nat) : Str := ⟨#[let_ ((a + b * k % 26) % 26)]⟩ ++ (if k < 26 then Str.empty else ⟨#[let_ (k / 26)]⟩)
theorem sgn_cs (a b k : Nat) : cs (sgn a b k) = let_ ((a + b * k % 26) % 26) :: (if k < 26 then [] else [let_ (k / 26)]) := by
  unfold sgn
  rw [cs_app]
  split <;> rfl
theorem sgn_len (a b k : Nat) : (sgn a b k).length = if k < 26 then 1 else 2 := by
  rw [cs_len, sgn_cs]
  split <;> rfl
theorem sgn_lw (a b : Nat) {k : Nat} (h : k < 40) : Lw (sgn a b k) := by
  intro c hc
  rw [sgn_cs] at hc
  rcases List.mem_cons.mp hc with z | z
  · rw [z]
    exact let_mem (Nat.mod_lt _ (by decide))
  · split at z
    · cases z
    · rw [List.mem_singleton.mp z]
      exact let_mem (by omega)
theorem sgn_inj {a b i j : Nat} (ha : a < 26) (hb : b ∈ [1, 3, 5, 7, 9, 11, 25]) (hi : i < 40) (hj : j < 40) (h : sgn a b i = sgn a b j) : i = j := by
  have e : sgE a b i = sgE a b j := by
    have q := congrArg cs h
    rw [sgn_cs, sgn_cs] at q
    injection q with q1 q2
    have q3 := let_inj (Nat.mod_lt _ (by decide)) (Nat.mod_lt _ (by decide)) q1
    unfold sgE
    rw [q3]
    have q4 : i / 26 = j / 26 := by
      by_cases h1 : i < 26
      · by_cases h2 : j < 26
        · omega
        · rw [if_pos h1, if_neg h2] at q2
          cases q2
      · by_cases h2 : j < 26
        · rw [if_neg h1, if_pos h2] at q2
          cases q2
        · rw [if_neg h1, if_neg h2] at q2
          injection q2 with q5
          exact let_inj (by omega) (by omega) q5
    rw [q4]
  have nd := sgE_nodup a ha b hb
  have g1 : ((List.range 40).map (sgE a b))[i]? = some (sgE a b i) := by
    rw [List.getElem?_map, List.getElem?_range hi]
    rfl
  have g2 : ((List.range 40).map (sgE a b))[j]? = some (sgE a b j) := by
    rw [List.getElem?_map, List.getElem?_range hj]
    rfl
  rw [e] at g1
  exact nodup_at nd g1 g2
def sgns (a b n : Nat) : List Str := (List.range n).map (sgn a b)
theorem sgns_nodup {a b n : Nat} (ha : a < 26) (hb : b ∈ [1, 3, 5, 7, 9, 11, 25]) (hn : n ≤ 40) : (sgns a b n).Nodup := by
  unfold sgns
  rw [List.Nodup, List.pairwise_map]
  refine List.Pairwise.imp_of_mem ?_ List.nodup_range
  intro i j hi hj hne e
  exact hne (sgn_inj ha hb (by have := List.mem_range.mp hi; omega) (by have := List.mem_range.mp hj; omega) e)
theorem sgns_len (a b n : Nat) : (sgns a b n).length = n := by
  unfold sgns
  rw [List.length_map, List.length_range]
theorem sgns_mem {a b n : Nat} {x : Str} (hn : n ≤ 40) (h : x ∈ sgns a b n) : 1 ≤ x.length ∧ x.length ≤ 2 ∧ Lw x := by
  obtain ⟨k, hk, rfl⟩ := List.mem_map.mp h
  have hk' : k < n := List.mem_range.mp hk
  rw [sgn_len]
  refine ⟨?_, ?_, sgn_lw a b (by omega)⟩
  · split <;> omega
  · split <;> omega
/-- the words that stand in texts too -/
def kno : List Str := ["find", "finds", "word", "fact", "before", "first", "last", "lot", "never", "all", "rest", "self"]
theorem kno_nodup : kno.Nodup := by decide +kernel
theorem kno_ok : ∀ x ∈ kno, isNm x = true ∧ 3 ≤ x.length := by decide +kernel
theorem kno_len : kno.length = 12 := rfl
/-- names: each once -/
def Nms (xs : List Str) : Prop := xs.Nodup ∧ ∀ x ∈ xs, isNm x = true
theorem nms_known {ys : List Str} {a b n : Nat} (ha : a < 26) (hb : b ∈ [1, 3, 5, 7, 9, 11, 25]) (hn : n ≤ 40) (h : ys.Perm kno) (m : Nat) : Nms ((ys ++ sgns a b n).take m) := by
  have nd : (ys ++ sgns a b n).Nodup := by
    rw [List.nodup_append]
    refine ⟨h.nodup_iff.mpr kno_nodup, sgns_nodup ha hb hn, fun x hx y hy e => ?_⟩
    have q1 := (kno_ok x (h.mem_iff.mp hx)).2
    have q2 := (sgns_mem hn hy).2.1
    rw [e] at q1
    omega
  refine ⟨nd.sublist (List.take_sublist _ _), fun x hx => ?_⟩
  rcases List.mem_append.mp (List.mem_of_mem_take hx) with z | z
  · exact (kno_ok x (h.mem_iff.mp z)).1
  · obtain ⟨q1, q2, q3⟩ := sgns_mem hn z
    exact isNm_iff.mpr ⟨q1, by omega, q3⟩
/-- names by a stem around a sign -/
def stm (w : Str) (i : Nat) (s : Str) : Str := ⟨((cs w).take i).toArray⟩ ++ s ++ ⟨((cs w).drop i).toArray⟩
theorem stm_cs (w : Str) (i : Nat) (s : Str) : cs (stm w i s) = (cs w).take i ++ cs s ++ (cs w).drop i := by
  unfold stm
  rw [cs_app, cs_app]
  rfl
theorem stm_eq {w s : Str} {i : Int} (h0 : 0 ≤ i) (h1 : i ≤ w.length) : cutS w none (some i) ++ s ++ cutS w (some i) none = stm w i.toNat s := by
  refine cs_inj ?_
  rw [cs_app, cs_app, cs_cut_to _ _ h0, cs_cut_from _ _ h0 h1, stm_cs]
theorem nms_stem {w : Str} {i a b n : Nat} (hw : Lw w) (hl : w.length ≤ 4) (ha : a < 26) (hb : b ∈ [1, 3, 5, 7, 9, 11, 25]) (hn : n ≤ 40) : Nms ((sgns a b n).map (stm w i)) := by
  refine ⟨?_, fun x hx => ?_⟩
  · rw [List.Nodup, List.pairwise_map]
    refine List.Pairwise.imp ?_ (sgns_nodup ha hb hn)
    intro x y hne e
    have q := congrArg cs e
    rw [stm_cs, stm_cs] at q
    exact hne (cs_inj (List.append_cancel_left (List.append_cancel_right q)))
  · obtain ⟨s, hs, rfl⟩ := List.mem_map.mp hx
    obtain ⟨q1, q2, q3⟩ := sgns_mem hn hs
    rw [cs_len] at q1 q2 hl
    refine isNm_iff.mpr ⟨?_, ?_, fun c hc => ?_⟩
    · rw [cs_len, stm_cs, List.length_append, List.length_append]; omega
    · rw [cs_len, stm_cs, List.length_append, List.length_append, List.length_take, List.length_drop]; omega
    · rw [stm_cs] at hc
      rcases List.mem_append.mp hc with z | z
      · rcases List.mem_append.mp z with z | z
        · exact hw c (List.mem_of_mem_take z)
        · exact q3 c z
      · exact hw c (List.mem_of_mem_drop z)
theorem nm_word {x : Str} (h : Lw x) (h1 : 1 ≤ x.length) (h2 : (x.length : Int) ≤ 6) : isNm x = true := isNm_iff.mpr ⟨h1, by omega, h⟩
theorem nm_long {x y : Str} (h : isNm x = true) (k : Lw y) : isNm (cutS (x ++ y) none (some 6)) = true := by
  obtain ⟨h1, h2, h3⟩ := isNm_iff.mp h
  have e : cs (cutS (x ++ y) none (some 6)) = (cs (x ++ y)).take 6 := cs_cut_to _ 6 (by decide)
  rw [cs_len] at h1
  refine isNm_iff.mpr ⟨?_, ?_, fun c hc => ?_⟩
  · rw [cs_len, e, List.length_take, cs_app, List.length_append]
    omega
  · rw [cs_len, e, List.length_take]
    omega
  · rw [e] at hc
    exact h3.app k c (List.mem_of_mem_take hc)
/-- one name more -/
theorem Nms.snoc {xs : List Str} {x : Str} (h : Nms xs) (hx : isNm x = true) (n : x ∉ xs) : Nms (xs ++ [x]) := by
  refine ⟨?_, fun y hy => ?_⟩
  · rw [List.nodup_append]
    exact ⟨h.1, List.pairwise_singleton _ _, fun a ha b hb e => n (by rw [← List.mem_singleton.mp hb, ← e]; exact ha)⟩
  · rcases List.mem_append.mp hy with z | z
    · exact h.2 y z
    · rw [List.mem_singleton.mp z]
      exact hx
/-- a sign is left while there are fewer names than signs -/
theorem spare_left {xs ss : List Str} (h : ss.Nodup) (hl : xs.length < ss.length) : ∃ s r, ss.filter (fun s => !decide (s ∈ xs)) = s :: r := by
  cases e : ss.filter (fun s => !decide (s ∈ xs)) with
  | cons s r => exact ⟨s, r, rfl⟩
  | nil =>
    exfalso
    have all : ∀ s ∈ ss, s ∈ xs := fun s hs => by
      have q := List.filter_eq_nil_iff.mp e s hs
      simpa using q
    have sub := nodup_sub h all
    omega
end Th
/-! data that is written in the text, and data judged -/
namespace Th
open PySem PySem.Spec PyProof.Rows L2
def Lit (K : PySem.W.Frag) (t : TE) (d : PyData) : Prop := ∀ (D : DS) (σ : L2.St) (H : Hp) (Q : VK), Drw D H → (∀ v H', Go D H H' → Da K (hid D.p H') v d → Q v H') → t σ H Q
def LitA (K : PySem.W.Frag) (t : TA) (ds : List PyData) : Prop := ∀ (D : DS) (σ : L2.St) (H : Hp) (Q : List V → Hp → Prop), Drw D H → (∀ vs H', Go D H H' → DaAll K (hid D.p H') vs ds → Q vs H') → t σ H Q
section
variable {K : PySem.W.Frag}
theorem lit_non : Lit K (tC .non) .none := fun D σ H Q d q => q _ H (.refl d) .non
theorem lit_bl (b : Bool) : Lit K (tC (.bl b)) (.bool b) := fun D σ H Q d q => q _ H (.refl d) (.bl b)
theorem lit_int (i : Int) : Lit K (tC (.int i)) (.int i) := fun D σ H Q d q => q _ H (.refl d) (.int i)
theorem lit_neg (i : Int) : Lit K (tUn (rU fun i => .int (-i)) (tC (.int i))) (.int (-i)) := fun D σ H Q d q => ⟨i, rfl, q _ H (.refl d) (.int (-i))⟩
theorem lit_str (x : Str) : Lit K (tC (.str x)) (.str x) := fun D σ H Q d q => q _ H (.refl d) (.str x)
theorem lita_nil : LitA K tNil [] := fun D σ H Q d q => q _ H (.refl d) .nil
theorem lita_cons {t : TE} {d : PyData} {ta : TA} {ds : List PyData} (h : Lit K t d) (r : LitA K ta ds) : LitA K (tCons t ta) (d :: ds) := fun D σ H Q dr q =>
  h D σ H _ dr fun v H1 g1 h1 => r D σ H1 _ g1.st fun vs H2 g2 h2 => q _ H2 (g1.trans g2) (.cons (h1.to g2.sm) h2)
theorem lit_tup {ta : TA} {ds : List PyData} (h : LitA K ta ds) (hl : ds.length ≤ 100000) : Lit K (tTup ta) (.tuple ds) := fun D σ H Q dr q =>
  h D σ H _ dr fun vs H1 g1 h1 => ⟨sline (by rw [h1.len]; exact hl), fun p np => by
    have z := g1.st.ne_new np
    have g2 := g1.new (o := .tup vs) np
    refine q _ _ g2 (Da.newT (by rw [hid_ne z]; exact upd_same) (h1.to (Go.of g1.st (same_new np)).sm))⟩
theorem lit_lst {ta : TA} {ds : List PyData} (h : LitA K ta ds) (hl : ds.length ≤ 100000) : Lit K (tLst ta) (.list ds) := fun D σ H Q dr q =>
  h D σ H _ dr fun vs H1 g1 h1 => ⟨sline (by rw [h1.len]; exact hl), fun p np => by
    have z := g1.st.ne_new np
    have g2 := g1.new (o := .lst vs) np
    refine q _ _ g2 (Da.newL (by rw [hid_ne z]; exact upd_same) (h1.to (Go.of g1.st (same_new np)).sm))⟩
/-- the datum that an expression of constants, tuples and lists writes -/
def litE : Nat → Expr → Option PyData
  | _, .Constant .none _ _ => some .none
  | _, .Constant (.bool b) _ _ => some (.bool b)
  | _, .Constant (.int i) _ _ => some (.int i)
  | _, .Constant (.str x) _ _ => some (.str x)
  | _, .UnaryOp .USub (.Constant (.int i) _ _) _ => some (.int (-i))
  | n + 1, .Tuple es _ _ => (litEs (litE n) es).bind fun ds => if ds.length ≤ 1000 then some (.tuple ds) else none
  | n + 1, .List es _ => (litEs (litE n) es).bind fun ds => if ds.length ≤ 1000 then some (.list ds) else none
  | _, _ => none
where litEs (f : Expr → Option PyData) : List Expr → Option (List PyData)
  | [] => some []
  | e :: es => (f e).bind fun d => (litEs f es).map (d :: ·)
def NoStar (X : Cx) (e : Expr) : Prop := ∀ es, starEach (e :: es) X.env = (false, eval e X.env) :: starEach es X.env
theorem litEs_ok {X : Cx} {f : Expr → Option PyData} (hf : ∀ e d, f e = some d → ∃ t, PE X e t ∧ Lit K t d ∧ NoStar X e) : ∀ (es : List Expr) (ds : List PyData), litE.litEs f es = some ds → ∃ t, PA X es t ∧ LitA K t ds
  | [], ds, h => by
    cases h
    exact ⟨_, pa_nil, lita_nil⟩
  | e :: es, ds, h => by
    unfold litE.litEs at h
    cases h1 : f e with
    | none =>
      rw [h1] at h
      cases h
    | some d =>
      rw [h1] at h
      cases h2 : litE.litEs f es with
      | none =>
        rw [h2] at h
        cases h
      | some r =>
        rw [h2] at h
        cases h
        obtain ⟨t, a1, a2, a3⟩ := hf e d h1
        obtain ⟨u, b1, b2⟩ := litEs_ok hf es r h2
        exact ⟨_, pa_cons a1 b1 (a3 es), lita_cons a2 b2⟩
theorem litE_ok {X : Cx} : ∀ (n : Nat) (e : Expr) (d : PyData), litE n e = some d → ∃ t, PE X e t ∧ Lit K t d ∧ NoStar X e := by
  intro n
  induction n with
  | zero =>
    intro e d h
    unfold litE at h
    split at h
    · cases h; exact ⟨_, pe_non, lit_non, fun _ => rfl⟩
    · cases h; exact ⟨_, pe_bl, lit_bl _, fun _ => rfl⟩
    · cases h; exact ⟨_, pe_int, lit_int _, fun _ => rfl⟩
    · cases h; exact ⟨_, pe_str, lit_str _, fun _ => rfl⟩
    · cases h; exact ⟨_, pe_un un_neg pe_int, lit_neg _, fun _ => rfl⟩
    all_goals first | (exfalso; omega) | cases h
  | succ n ih =>
    intro e d h
    unfold litE at h
    split at h
    · cases h; exact ⟨_, pe_non, lit_non, fun _ => rfl⟩
    · cases h; exact ⟨_, pe_bl, lit_bl _, fun _ => rfl⟩
    · cases h; exact ⟨_, pe_int, lit_int _, fun _ => rfl⟩
    · cases h; exact ⟨_, pe_str, lit_str _, fun _ => rfl⟩
    · cases h; exact ⟨_, pe_un un_neg pe_int, lit_neg _, fun _ => rfl⟩
    · rename_i m es x1 p he
      obtain rfl := Nat.succ.inj he
      cases h1 : litE.litEs (litE n) es with
      | none => rw [h1] at h; cases h
      | some ds =>
        rw [h1] at h
        simp only [Option.bind_some] at h
        split at h
        · cases h
          obtain ⟨t, b1, b2⟩ := litEs_ok ih es ds h1
          exact ⟨_, pe_tup b1, lit_tup b2 (by omega), fun _ => rfl⟩
        · cases h
    · rename_i m es p he
      obtain rfl := Nat.succ.inj he
      cases h1 : litE.litEs (litE n) es with
      | none => rw [h1] at h; cases h
      | some ds =>
        rw [h1] at h
        simp only [Option.bind_some] at h
        split at h
        · cases h
          obtain ⟨t, b1, b2⟩ := litEs_ok ih es ds h1
          exact ⟨_, pe_lst b1, lit_lst b2 (by omega), fun _ => rfl⟩
        · cases h
    · cases h
/-- what a list of data holds -/
theorem Da.inL {H : Hp} {p : Addr} {ds : List PyData} (h : Da K H (.ref p) (.list ds)) : ∃ xs, SqL K H p xs ∧ DaAll K H xs ds := by
  cases h with
  | lst hs _ ha => exact ⟨_, hs, ha⟩
theorem Da.inT {H : Hp} {p : Addr} {ds : List PyData} (h : Da K H (.ref p) (.tuple ds)) : ∃ xs, SqT K H p xs ∧ DaAll K H xs ds := by
  cases h with
  | tup hs _ ha => exact ⟨_, hs, ha⟩
end
theorem kit_lt {K : PySem.W.Frag} (d : PyData) (h : tyD d ≠ "dict") : PySem.W.kitAny K (.type (tyD d)) [.type "list", .type "tuple"] = some (decide (tyD d = "list" ∨ tyD d = "tuple")) := by
  by_cases e1 : tyD d = "list"
  · refine kitAny_cons (kit_ty (kit_list d h)) (fun z => ?_) (fun _ => ?_)
    · rw [decide_eq_true e1] at z
      cases z
    · exact decide_eq_true (.inl e1)
  · refine kitAny_cons (kit_ty (kit_list d h)) (fun _ => ?_) (fun z => absurd (of_decide_eq_true z) e1)
    refine kitAny_cons (kit_ty (kit_tuple d h)) (fun z => ?_) (fun z => decide_eq_true (.inr (of_decide_eq_true z)))
    rw [kitAny_nil, decide_eq_false]
    rintro (q | q)
    · exact e1 q
    · exact of_decide_eq_false z q
/-- depth below n, sizes small -/
def Lv : Nat → PyData → Prop
  | _, .none => True
  | _, .bool _ => True
  | _, .int _ => True
  | _, .str x => x.length ≤ 100000 ∧ PyData.strOk x = true
  | 0, .list _ => False
  | 0, .tuple _ => False
  | n + 1, .list xs => xs.length ≤ 60 ∧ ∀ x ∈ xs, Lv n x
  | n + 1, .tuple xs => xs.length ≤ 60 ∧ ∀ x ∈ xs, Lv n x
  | _, .dict _ => False
def lvB : Nat → PyData → Bool
  | _, .none => true
  | _, .bool _ => true
  | _, .int _ => true
  | _, .str x => decide (x.length ≤ 100000) && PyData.strOk x
  | 0, .list _ => false
  | 0, .tuple _ => false
  | n + 1, .list xs => decide (xs.length ≤ 60) && xs.all (lvB n)
  | n + 1, .tuple xs => decide (xs.length ≤ 60) && xs.all (lvB n)
  | _, .dict _ => false
theorem lv_of : ∀ (n : Nat) (d : PyData), lvB n d = true → Lv n d
  | 0, .none, _ => trivial
  | 0, .bool _, _ => trivial
  | 0, .int _, _ => trivial
  | 0, .str x, h => by
    obtain ⟨a, b⟩ := Bool.and_eq_true_iff.mp h
    exact ⟨of_decide_eq_true a, b⟩
  | 0, .list _, h => nomatch h
  | 0, .tuple _, h => nomatch h
  | 0, .dict _, h => nomatch h
  | n + 1, .none, _ => trivial
  | n + 1, .bool _, _ => trivial
  | n + 1, .int _, _ => trivial
  | n + 1, .str x, h => by
    obtain ⟨a, b⟩ := Bool.and_eq_true_iff.mp h
    exact ⟨of_decide_eq_true a, b⟩
  | n + 1, .list xs, h => by
    obtain ⟨a, b⟩ := Bool.and_eq_true_iff.mp h
    exact ⟨of_decide_eq_true a, fun x hx => lv_of n x (List.all_eq_true.mp b x hx)⟩
  | n + 1, .tuple xs, h => by
    obtain ⟨a, b⟩ := Bool.and_eq_true_iff.mp h
    exact ⟨of_decide_eq_true a, fun x hx => lv_of n x (List.all_eq_true.mp b x hx)⟩
  | n + 1, .dict _, h => nomatch h
theorem Lv.up : ∀ (n : Nat) (d : PyData), Lv n d → Lv (n + 1) d
  | 0, .none, _ => trivial
  | 0, .bool _, _ => trivial
  | 0, .int _, _ => trivial
  | 0, .str x, h => h
  | 0, .list _, h => h.elim
  | 0, .tuple _, h => h.elim
  | 0, .dict _, h => h.elim
  | n + 1, .none, _ => trivial
  | n + 1, .bool _, _ => trivial
  | n + 1, .int _, _ => trivial
  | n + 1, .str x, h => h
  | n + 1, .list xs, h => ⟨h.1, fun x hx => Lv.up n x (h.2 x hx)⟩
  | n + 1, .tuple xs, h => ⟨h.1, fun x hx => Lv.up n x (h.2 x hx)⟩
  | n + 1, .dict _, h => h.elim
mutual
theorem Lv.shape : ∀ (n : Nat) (d : PyData), Lv n d → d.canLay0 = true ∧ d.depth ≤ n
  | 0, .none, _ => ⟨by simp only [PyData.canLay0], by simp [PyData.depth]⟩
  | 0, .bool _, _ => ⟨by simp only [PyData.canLay0], by simp [PyData.depth]⟩
  | 0, .int _, _ => ⟨by simp only [PyData.canLay0], by simp [PyData.depth]⟩
  | 0, .str x, h => ⟨by simp only [PyData.canLay0]; exact h.2, by simp [PyData.depth]⟩
  | 0, .list _, h => h.elim
  | 0, .tuple _, h => h.elim
  | 0, .dict _, h => h.elim
  | n + 1, .none, _ => ⟨by simp only [PyData.canLay0], by simp [PyData.depth]⟩
  | n + 1, .bool _, _ => ⟨by simp only [PyData.canLay0], by simp [PyData.depth]⟩
  | n + 1, .int _, _ => ⟨by simp only [PyData.canLay0], by simp [PyData.depth]⟩
  | n + 1, .str x, h => ⟨by simp only [PyData.canLay0]; exact h.2, by simp [PyData.depth]⟩
  | n + 1, .list xs, h => by
    obtain ⟨a, b⟩ := Lv.shapes n xs h.2
    exact ⟨by simp only [PyData.canLay0]; exact a, by simp only [PyData.depth]; omega⟩
  | n + 1, .tuple xs, h => by
    obtain ⟨a, b⟩ := Lv.shapes n xs h.2
    exact ⟨by simp only [PyData.canLay0]; exact a, by simp only [PyData.depth]; omega⟩
  | n + 1, .dict _, h => h.elim
theorem Lv.shapes : ∀ (n : Nat) (xs : List PyData), (∀ x ∈ xs, Lv n x) → PyData.canLayAll0 xs = true ∧ PyData.depthAll xs ≤ n
  | n, [], _ => ⟨by simp only [PyData.canLayAll0], by simp [PyData.depthAll]⟩
  | n, x :: xs, h => by
    obtain ⟨a, b⟩ := Lv.shape n x (h x List.mem_cons_self)
    obtain ⟨c, e⟩ := Lv.shapes n xs fun y hy => h y (List.mem_cons_of_mem _ hy)
    exact ⟨by simp only [PyData.canLayAll0, a, c, Bool.and_self], by simp only [PyData.depthAll]; omega⟩
end
theorem Lv.shaped {n : Nat} {d : PyData} (h : Lv n d) (hn : n ≤ 64) : SeqAt.shaped d = true := by
  obtain ⟨a, b⟩ := Lv.shape n d h
  unfold SeqAt.shaped
  rw [a, decide_eq_true (by omega)]
  rfl
theorem strOk_lw {x : Str} (h : Lw x) : PyData.strOk x = true := by
  unfold PyData.strOk
  rw [Array.all_eq_true']
  intro c hc
  have q := h c (by unfold cs; exact Array.mem_toList_iff.mpr hc)
  have all : ∀ c ∈ cs abc, c < 0x110000 := by decide +kernel
  exact decide_eq_true (all c q)
theorem lv_nm {n : Nat} {x : Str} (h : isNm x = true) : Lv n (.str x) := by
  obtain ⟨h1, h2, h3⟩ := isNm_iff.mp h
  have q : x.length ≤ 100000 ∧ PyData.strOk x = true := ⟨by omega, strOk_lw h3⟩
  cases n <;> exact q
/-- a datum is a name -/
def nmD : PyData → Bool
  | .str x => isNm x
  | _ => false
/-- data that comes now and then -/
def odds : List PyData := [.none, .bool true, .bool false, .int 0, .int 1, .int (-1), .int 30, .int 999999999, .str "", .str "a", .str "A", .str "ab1", .str "abcdefg", .str "a b", .str "a\n", .str "{", .tuple [], .list [], .tuple [.str "a"], .list [.str "a"],
  .tuple [.str "b", .str "a"], .tuple [.str "a", .str "a"], .tuple [.str "a", .int 1], .tuple [.none], .tuple [.bool true], .tuple [.tuple [.str "a"]], .list [.list [.str "a"]], .tuple [.str "a", .list [.str "a"]], .tuple [.str "a", .str ""], .tuple [.str "a", .str "B"],
  .list [.str "a", .tuple [.str "a"]], .tuple [.str "a", .tuple [.str "b", .str "a"]], .tuple [.str "a", .tuple []], .tuple [.str "a", .list []], .tuple [.int 1, .tuple [.str "a"]]]
theorem odds_lv : ∀ d ∈ odds, Lv 2 d := by
  have h : odds.all (lvB 2) = true := by decide +kernel
  exact fun d hd => lv_of 2 d (List.all_eq_true.mp h d hd)
/-- one deeper -/
def LvN : Nat → PyData → Prop
  | 0, _ => False
  | n + 1, d => Lv n d
theorem lvn_list {n : Nat} {xs : List PyData} (h : Lv n (.list xs)) : xs.length ≤ 60 ∧ ∀ x ∈ xs, LvN n x := by
  cases n with
  | zero => exact h.elim
  | succ n => exact h
theorem lvn_tuple {n : Nat} {xs : List PyData} (h : Lv n (.tuple xs)) : xs.length ≤ 60 ∧ ∀ x ∈ xs, LvN n x := by
  cases n with
  | zero => exact h.elim
  | succ n => exact h
theorem da_two {K : PySem.W.Frag} {H : Hp} {v u : V} {d : PyData} {k : Nat} (hv : Da K H v d) (hu : Da K H u d) (h : tyD d = "list" ∨ tyD d = "tuple") (lv : Lv k d) :
    ∃ p r xs ys ds, v = .ref p ∧ u = .ref r ∧ (SqL K H p xs ∨ SqT K H p xs) ∧ (SqL K H r ys ∨ SqT K H r ys) ∧ DaAll K H xs ds ∧ DaAll K H ys ds ∧ ds.length ≤ 60 ∧ ∀ x ∈ ds, LvN k x := by
  cases d with
  | list ds =>
    cases hv with
    | lst h1 _ h2 =>
      cases hu with
      | lst g1 _ g2 => exact ⟨_, _, _, _, ds, rfl, rfl, .inl h1, .inl g1, h2, g2, (lvn_list lv).1, (lvn_list lv).2⟩
  | tuple ds =>
    cases hv with
    | tup h1 _ h2 =>
      cases hu with
      | tup g1 _ g2 => exact ⟨_, _, _, _, ds, rfl, rfl, .inr h1, .inr g1, h2, g2, (lvn_tuple lv).1, (lvn_tuple lv).2⟩
  | none => rcases h with h | h <;> exact absurd h (by decide)
  | bool b => rcases h with h | h <;> exact absurd (show ("bool" : String) = _ from h) (by decide)
  | int b => rcases h with h | h <;> exact absurd (show ("int" : String) = _ from h) (by decide)
  | str b => rcases h with h | h <;> exact absurd (show ("str" : String) = _ from h) (by decide)
  | dict b => cases hv
theorem ix_any {K : PySem.W.Frag} {H : Hp} {p : Addr} {xs : List V} {i : Nat} {v : V} {Q : VK} (h : SqL K H p xs ∨ SqT K H p xs) (e : xs[i]? = some v) (q : Q v H) : rIx K (.ref p) (.int ((0 : Int) + (i : Int))) H Q := by
  have a : atI xs ((0 : Int) + (i : Int)) = some v := by
    rw [Int.zero_add]
    exact atI_nat e
  rcases h with h | h
  · exact .inl ⟨p, xs, _, v, rfl, rfl, h, a, q⟩
  · exact .inr (.inl ⟨p, xs, _, v, rfl, rfl, h, a, q⟩)
theorem sq_any {K : PySem.W.Frag} {H H' : Hp} {p : Addr} {xs : List V} (s : Same H H') (h : SqL K H p xs ∨ SqT K H p xs) : SqL K H' p xs ∨ SqT K H' p xs := h.imp s.seq (same_t s)
/-- a judge of one datum, that changes nothing -/
def spJ (K : PySem.W.Frag) (n : Nat) (j : PyData → Bool) : Sp := fun vs H Q _ => ∃ (v : V) (d : PyData), vs = [v] ∧ Da K H v d ∧ Lv n d ∧ ∀ H', Same H H' → Q (.bl (j d)) H'
end Th
/-! texts in order, lots, statements -/
namespace Th
open PySem PySem.Spec PyProof.Rows L2
/-- x stands behind y or is y -/
def leS (x y : Str) : Prop := ¬ cs y < cs x
theorem ltCps_iff (x y : Str) : ltCps x.cps.toList y.cps.toList = decide (cs x < cs y) := by
  first | rfl | (rw [ltCps_eq]; rfl) | exact ltCps_eq ..
theorem rising_pair : ∀ (r : List Str) (p : Str), risingS p r = true → (p :: r).Pairwise leS
  | [], p, _ => List.pairwise_singleton _ _
  | x :: r, p, h => by
    have h' : (!ltCps x.cps.toList p.cps.toList && risingS x r) = true := h
    obtain ⟨a, b⟩ := Bool.and_eq_true_iff.mp h'
    have a' : leS p x := by
      rw [ltCps_iff] at a
      intro z
      rw [decide_eq_true z] at a
      cases a
    have ih := rising_pair r x b
    refine List.pairwise_cons.mpr ⟨fun y hy => ?_, ih⟩
    rcases List.mem_cons.mp hy with e | hy
    · rw [e]; exact a'
    · have q := (List.pairwise_cons.mp ih).1 y hy
      intro z
      have t1 := Std.lt_of_lt_of_le z (Std.not_lt.mp a')
      exact q t1
theorem sorted_pair {l : List Str} (h : sortedS l = true) : l.Pairwise leS := by
  cases l with
  | nil => exact List.Pairwise.nil
  | cons x r => exact rising_pair r x h
theorem leS_anti {x y : Str} (a : leS x y) (b : leS y x) : x = y := cs_inj (Std.le_antisymm (Std.not_lt.mp a) (Std.not_lt.mp b))
/-- one list in order has these members -/
theorem sorted_one : ∀ {l m : List Str}, l.Perm m → l.Pairwise leS → m.Pairwise leS → l = m
  | [], m, p, _, _ => (List.nil_perm.mp p).symm
  | x :: l, [], p, _, _ => (List.perm_nil.mp p)
  | x :: l, y :: m, p, h, k => by
    obtain ⟨h1, h2⟩ := List.pairwise_cons.mp h
    obtain ⟨k1, k2⟩ := List.pairwise_cons.mp k
    have e : x = y := by
      rcases List.mem_cons.mp (p.mem_iff.mp (List.mem_cons_self (a := x) (l := l))) with e | hx
      · exact e
      · rcases List.mem_cons.mp (p.mem_iff.mpr (List.mem_cons_self (a := y) (l := m))) with e | hy
        · exact e.symm
        · exact leS_anti (h1 y hy) (k1 x hx)
    subst e
    rw [sorted_one (List.perm_cons _ |>.mp p) h2 k2]
/-- each below the next -/
def risB : List Str → Bool
  | x :: y :: r => decide (cs x < cs y) && risB (y :: r)
  | _ => true
theorem ris_pair : ∀ {l : List Str}, risB l = true → l.Pairwise (fun x y => cs x < cs y)
  | [], _ => List.Pairwise.nil
  | [x], _ => List.pairwise_singleton _ _
  | x :: y :: r, h => by
    obtain ⟨a, b⟩ := Bool.and_eq_true_iff.mp (show (decide (cs x < cs y) && risB (y :: r)) = true from h)
    have ih := ris_pair b
    have a' := of_decide_eq_true a
    refine List.pairwise_cons.mpr ⟨fun z hz => ?_, ih⟩
    rcases List.mem_cons.mp hz with e | hz
    · rw [e]; exact a'
    · exact Std.lt_trans a' ((List.pairwise_cons.mp ih).1 z hz)
theorem pair_ris : ∀ {l : List Str}, l.Pairwise (fun x y => cs x < cs y) → risB l = true
  | [], _ => rfl
  | [x], _ => rfl
  | x :: y :: r, h => by
    obtain ⟨h1, h2⟩ := List.pairwise_cons.mp h
    show (decide (cs x < cs y) && risB (y :: r)) = true
    rw [decide_eq_true (h1 y List.mem_cons_self), pair_ris h2]
    rfl
theorem ris_nodup {l : List Str} (h : risB l = true) : l.Nodup := (ris_pair h).imp fun {x y} a e => by
  rw [e] at a
  exact Std.lt_irrefl a
theorem ris_le {l : List Str} (h : risB l = true) : l.Pairwise leS := (ris_pair h).imp fun {x y} a z => Std.lt_irrefl (Std.lt_trans a z)
theorem once_perm {xs : List Str} (h : xs.Nodup) : (once [] xs).Perm xs := by
  refine (List.perm_ext_iff_of_nodup (once_nodup xs [] List.nodup_nil) h).mpr fun y => ?_
  rw [once_mem]
  simp
/-- the texts in order, each once, are the texts themselves exactly if each is below the next -/
theorem lot_iff {xs ys : List Str} (p : ys.Perm (once [] xs)) (s : sortedS ys = true) : xs = ys ↔ risB xs = true := by
  constructor
  · intro e
    rw [e]
    have nd : ys.Nodup := p.nodup_iff.mpr (once_nodup xs [] List.nodup_nil)
    refine pair_ris ?_
    refine List.Pairwise.imp_of_mem (R := fun x y => leS x y ∧ x ≠ y) ?_ ((sorted_pair s).and nd)
    intro x y _ _ ⟨a, b⟩
    rcases Std.lt_trichotomy (cs x) (cs y) with z | z | z
    · exact z
    · exact absurd (cs_inj z) b
    · exact absurd z a
  · intro h
    exact sorted_one ((once_perm (ris_nodup h)).symm.trans p.symm) (ris_le h) (sorted_pair s)

def strD : PyData → Str
  | .str x => x
  | _ => Str.empty
theorem nmD_str {d : PyData} (h : nmD d = true) : d = .str (strD d) := by
  cases d <;> first | rfl | cases h
theorem nms_strs : ∀ {ds : List PyData}, ds.all nmD = true → ds = (ds.map strD).map .str
  | [], _ => rfl
  | d :: ds, h => by
    obtain ⟨a, b⟩ := Bool.and_eq_true_iff.mp (show (nmD d && ds.all nmD) = true from h)
    rw [List.map_cons, List.map_cons, ← nms_strs b, ← nmD_str a]
/-- a datum is a lot -/
def lotD : PyData → Bool
  | .tuple ds => !ds.isEmpty && ds.all nmD && risB (ds.map strD)
  | _ => false
theorem lotD_tup (ds : List PyData) : lotD (.tuple ds) = (!ds.isEmpty && ds.all nmD && risB (ds.map strD)) := rfl
def eqS : PyData → Str → Bool
  | .str y, x => y == x
  | _, _ => false
theorem eqv_str (d : PyData) (x : Str) : PyData.eqv d (.str x) = eqS d x := by
  cases d <;> simp [PyData.eqv, eqS]
theorem eqS_iff {d : PyData} {x : Str} : eqS d x = true ↔ d = .str x := by
  cases d <;> simp [eqS]
theorem eqv_strs : ∀ xs ys : List Str, PyData.eqvAll (xs.map .str) (ys.map .str) = decide (xs = ys)
  | [], [] => by simp [PyData.eqvAll]
  | [], _ :: _ => by simp [PyData.eqvAll]
  | _ :: _, [] => by simp [PyData.eqvAll]
  | x :: xs, y :: ys => by
    rw [List.map_cons, List.map_cons]
    have e : PyData.eqvAll (PyData.str x :: xs.map .str) (PyData.str y :: ys.map .str) = (PyData.eqv (.str x) (.str y) && PyData.eqvAll (xs.map .str) (ys.map .str)) := by simp [PyData.eqvAll]
    rw [e, eqv_strs xs ys, eqv_str, Bool.eq_iff_iff, Bool.and_eq_true, eqS_iff]
    simp
/-- a datum is a statement -/
def stD : PyData → Bool
  | .tuple (.str h :: r) => if h = "lot" then (r.length == 1 && r.all lotD) else if h = "before" then (r.length == 2 && r.all nmD) else (decide (h = "never") && r.isEmpty)
  | _ => false
theorem lv_head {n : Nat} {d : PyData} {r : List PyData} (h : Lv (n + 1) (.tuple (d :: r))) : Lv n d := h.2 d List.mem_cons_self
theorem lv_in {n : Nat} {ds : List PyData} {d : PyData} (h : Lv (n + 1) (.tuple ds)) (m : d ∈ ds) : Lv n d := h.2 d m
theorem lv_lot {n : Nat} {xs : List Str} (h : ∀ x ∈ xs, isNm x = true) (hl : xs.length ≤ 60) : Lv (n + 1) (.tuple (xs.map .str)) :=
  ⟨by rw [List.length_map]; exact hl, fun x hx => by
    obtain ⟨y, hy, rfl⟩ := List.mem_map.mp hx
    exact lv_nm (h y hy)⟩
theorem lv_lotL {n : Nat} {xs : List Str} (h : ∀ x ∈ xs, isNm x = true) (hl : xs.length ≤ 60) : Lv (n + 1) (.list (xs.map .str)) :=
  ⟨by rw [List.length_map]; exact hl, fun x hx => by
    obtain ⟨y, hy, rfl⟩ := List.mem_map.mp hx
    exact lv_nm (h y hy)⟩
theorem scan_small {n : Nat} (h : n ≤ 1000) : n + 1 < scanBound := by
  unfold scanBound
  omega
end Th
namespace Th
open PySem PySem.Spec PyProof.Rows L2
theorem kp {H : Hp} {l q : Addr} {o u : HO} (h : H l = some o) (hq : H q = none) : (upd H q u) l = some o := by
  rw [upd_ne (ne_of_none h hq)]
  exact h
/-- a part of data is data -/
theorem DaAll.cut {K : PySem.W.Frag} {H : Hp} {vs : List V} {ds : List PyData} (h : DaAll K H vs ds) (lo hi : Option Int) : ∃ es, DaAll K H (cutV vs lo hi) es ∧ (∀ e ∈ es, e ∈ ds) ∧ es.length ≤ ds.length := by
  unfold cutV
  refine ⟨_, (h.drop _).take _, fun e he => List.mem_of_mem_drop (List.mem_of_mem_take he), ?_⟩
  rw [List.length_take, List.length_drop]
  omega
theorem lv_snoc {n : Nat} {a b : List PyData} (h : ∀ d ∈ a, Lv n d) (k : ∀ d ∈ b, Lv n d) : ∀ d ∈ a ++ b, Lv n d := fun d hd => by
  rcases List.mem_append.mp hd with z | z
  · exact h d z
  · exact k d z
theorem lv_one {n : Nat} {d : PyData} (h : Lv n d) : ∀ e ∈ [d], Lv n e := fun e he => by
  rw [List.mem_singleton.mp he]
  exact h
theorem cutL {xs : List V} {ds : List PyData} {lo hi : Option Int} (h : xs.length = ds.length) : (cutV xs lo hi).length ≤ ds.length := by
  rw [← h]
  exact cutV_length xs lo hi
theorem cut_strs (zs : List Str) (lo hi : Option Int) : ∃ ws : List Str, cutV (zs.map V.str) lo hi = ws.map V.str ∧ (∀ x ∈ ws, x ∈ zs) ∧ ws.length ≤ zs.length := by
  unfold cutV
  refine ⟨(zs.drop (HT.sIx (zs.map V.str).length 0 lo)).take (HT.sIx (zs.map V.str).length (zs.map V.str).length hi - HT.sIx (zs.map V.str).length 0 lo), ?_, fun x hx => List.mem_of_mem_drop (List.mem_of_mem_take hx), ?_⟩
  · rw [List.map_take, List.map_drop]
  · rw [List.length_take, List.length_drop]
    omega
theorem lv_names {xs : List Str} (h : ∀ x ∈ xs, isNm x = true) (n : Nat) : ∀ d ∈ xs.map PyData.str, Lv n d := fun d hd => by
  obtain ⟨x, hx, rfl⟩ := List.mem_map.mp hd
  exact lv_nm (h x hx)
theorem lv_word (n : Nat) (x : Str) (h : PyData.strOk x = true) (h2 : x.length ≤ 100000) : Lv n (.str x) := by
  cases n <;> exact ⟨h2, h⟩
theorem Lv.ups {n m : Nat} {d : PyData} (h : Lv n d) (k : n ≤ m) : Lv m d := by
  induction k with
  | refl => exact h
  | step _ ih => exact ih.up
end Th
/-! a dict of the text with a few words as keys -/
namespace Th
open PySem PySem.Spec PyProof.Rows L2
/-- what a dict of the text holds at a word -/
def lookE : List (Str × Value) → Str → Option Value
  | [], _ => none
  | (k, v) :: r, z => if k = z then some v else lookE r z
theorem ns_of {K : PySem.W.Frag} {d : Addr} {c : Value} {od : Option Addr} {n : Nat} {sl : Array (Option Value)} : ∀ (es : List DictEntry) (kvs : List (Str × Value)), K.lookup d = some ⟨c, od, .dict es.toArray n, sl⟩ →
    Paired (fun (e : DictEntry) (p : Str × Value) => (∃ t, e.key = .str p.1 t) ∧ e.val = p.2) es kvs → ∀ z : Str, PySem.W.nsIn K d z = some (lookE kvs z) := by
  intro es kvs l p z
  unfold PySem.W.nsIn
  rw [l]
  show (match es.find? (fun e => e.key.isStr z) with | some e => some (some e.val) | none => if es.any (·.refKey) then none else some none) = some (lookE kvs z)
  have hno : es.any (·.refKey) = false := by
    clear l
    induction p with
    | nil => rfl
    | cons h _ ih =>
      obtain ⟨⟨t, e⟩, _⟩ := h
      rw [List.any_cons, ih, Bool.or_false]
      simp only [DictEntry.refKey, e]
  rw [hno]
  clear hno l
  induction p with
  | nil => rfl
  | @cons e q es kvs h _ ih =>
    obtain ⟨⟨t, e1⟩, e2⟩ := h
    obtain ⟨k, v⟩ := q
    rw [List.find?_cons]
    have hs : e.key.isStr z = decide (k = z) := by
      rw [PySem.W.isStr_of, e1]
      show Value.isStrOf z (.str k t) = _
      simp only [Value.isStrOf]
      rw [Bool.eq_iff_iff, beq_iff_eq, decide_eq_true_eq]
    rw [hs]
    unfold lookE
    by_cases hk : k = z
    · rw [decide_eq_true hk, if_pos hk]
      show some (some e.val) = _
      rw [e2]
    · rw [decide_eq_false hk, if_neg hk]
      exact ih
end Th
namespace Th
open PySem PySem.Spec PyProof.Rows L2
def rKd (K : PySem.W.Frag) (d : Addr) : R2 := fun x y H Q => ∃ (z : Str) (u0 : Value) (v0 : V), x = .ref d ∧ y = .str z ∧ PySem.W.nsIn K d z = some (some u0) ∧ RelV v0 u0 ∧ Q v0 H
def rInKd (K : PySem.W.Frag) (d : Addr) : R2 := fun x y H Q => ∃ (z : Str) (r : Option Value), x = .str z ∧ y = .ref d ∧ PySem.W.nsIn K d z = some r ∧ Q (.bl r.isSome) H
theorem ix_kd {X : Cx} {d : Addr} {es : Array DictEntry} {n : Nat} (D : KDict X.K X.w d es n) : IxR X (rKd X.K d) := by
  intro value slice pins s σ H x y v u Q I rx ry h hs
  have key := op_item_kd D pins s σ H x y v u Q I rx ry h
  obtain ⟨z, u0, v0, rfl, rfl, _⟩ := h
  cases rx
  exact tail_any (kd_type D I) PySem.F.slot_dict_getitem.lookup key hs
end Th
/-! a tuple read backwards -/
namespace Th
open PySem PySem.Spec PyProof.Rows L2 HT
section
variable {prog : Program} {w : World} {A : Around} {E : Value → Shared → Prop} {s : Shared}
theorem adj_rev (n : Nat) : Builtin.Slice.sliceAdjust none none (-1) (n : Int) = ((n : Int) - 1, -1) := by
  unfold Builtin.Slice.sliceAdjust
  simp
theorem places_rev (n : Nat) : Builtin.Slice.slicePlaces ((n : Int) - 1) (-1) (-1) = n := by
  unfold Builtin.Slice.slicePlaces
  have h1 : ¬ ((-1 : Int) > 0) := by decide
  rw [if_neg h1]
  by_cases h : (n : Int) - 1 > -1
  · rw [if_pos h, show (- -1 : Int) = 1 by decide, Int.ediv_one]
    omega
  · rw [if_neg h]
    omega
theorem applied_rev {sl : Addr} {vl vu vs : Value} {n : Nat} {Q : Int × Int × Nat → Shared → Prop} (hs : s.heap.IsSliceOf sl vl vu vs) (pl : IsPart vl none) (pu : IsPart vu none) (ps : IsPart vs (some (-1)))
    (h : Q ((n : Int) - 1, -1, n) s) : wpAny (model prog w) A (Builtin.Slice.sliceApplied (.ref sl) (pure (n : Int))) Q E s := by
  obtain ⟨os, hos, hcs, hds⟩ := id hs
  unfold Builtin.Slice.sliceApplied Builtin.Slice.sliceFields
  refine wpAny_bind (wpAny_bind (wpAny_field hos hds (x := vl) rfl (wpAny_bind (wpAny_field hos hds (x := vu) rfl (wpAny_bind (wpAny_field hos hds (x := vs) rfl (wpAny_pure ?_)))))))
  refine wpAny_bind (slicePart_ ps ?_)
  show wpAny _ _ (if ((-1 : Int) == 0) = true then _ else _) _ _ s
  rw [if_neg (by decide)]
  refine wpAny_bind (slicePart_ pl (wpAny_bind (slicePart_ pu (wpAny_bind (wpAny_pure ?_)))))
  show wpAny _ _ (match Builtin.Slice.sliceAdjust none none (-1) (n : Int) with | (lo, hi) => pure (lo, (-1 : Int), Builtin.Slice.slicePlaces lo hi (-1))) _ _ s
  rw [adj_rev n]
  show wpAny _ _ (pure ((n : Int) - 1, (-1 : Int), Builtin.Slice.slicePlaces ((n : Int) - 1) (-1) (-1))) _ _ s
  rw [places_rev]
  exact wpAny_pure h
theorem fm_congr {α β : Type} {f g : α → Option β} : ∀ {l : List α}, (∀ k ∈ l, f k = g k) → l.filterMap f = l.filterMap g
  | [], _ => rfl
  | a :: r, h => by
    rw [List.filterMap_cons, List.filterMap_cons, h a List.mem_cons_self, fm_congr (l := r) fun k hk => h k (List.mem_cons_of_mem _ hk)]
theorem pick_rev (xs : Array Value) : ((List.range xs.size).filterMap fun (k : Nat) => xs[(((xs.size : Int) - 1) + (k : Int) * (-1)).toNat]?).toArray = xs.toList.reverse.toArray := by
  have e : ((List.range xs.size).filterMap fun (k : Nat) => xs[(((xs.size : Int) - 1) + (k : Int) * (-1)).toNat]?) = (List.range xs.size).filterMap ((fun j => xs[j]?) ∘ fun k => xs.size - 1 - k) := by
    refine fm_congr fun k hk => ?_
    have := List.mem_range.mp hk
    have z : (((xs.size : Int) - 1) + (k : Int) * (-1)).toNat = xs.size - 1 - k := by omega
    rw [z]
    rfl
  rw [e, ← List.filterMap_map, PySem.W.krv_range, List.filterMap_reverse, PySem.W.krv_all]
theorem getItem_tuple_rev {t sl : Addr} {items : Array Value} {vl vu vs : Value} {Q : Value → Shared → Prop} (ht : IsTup s.heap t items) (hs : s.heap.IsSliceOf sl vl vu vs) (pl : IsPart vl none) (pu : IsPart vu none) (ps : IsPart vs (some (-1)))
    (h : Q (.ref s.heap.objs.size) { s with heap := s.heap.push { cls := .type "tuple", data := .seq items.toList.reverse.toArray } })
    (hsz : items.size ≤ sizeLine) : wpAny (model prog w) A (getItem (.ref t) (.ref sl)) Q E s := by
  have htake : sizeOk (.seq items.toList.reverse.toArray) := by
    show items.toList.reverse.toArray.size ≤ sizeLine
    rw [List.size_toArray, List.length_reverse, Array.length_toList]
    omega
  obtain ⟨os, hos, hcs, hds⟩ := id hs
  have hTs : s.TypeIs (.ref sl) "slice" := ⟨os, hos, hcs⟩
  unfold getItem
  try with_reducible refine wpAny_holding ?_
  first | refine wpAny_bind (wpAny_pure ?_) | skip
  refine wpAny_bind (wpAny_sequenceKey ht.typeIs (by decide) ?_)
  refine wpAny_bind (wpAny_callSpecial?_slot (name := Str.ofString "__getitem__") ht.typeIs PyProof.Rows.slot_tuple_getitem
    (wpAny_call_entry PyProof.Rows.slot_tuple_getitem ht.typeIs entry_tuple_getitem ?_ (args_tuple_getitem _ _)))
  show wpAny _ _ (Builtin.Tuple.tupleItemsOf (.ref t) >>= _) _ _ s
  refine wpAny_bind (tupleItemsOf_ ht ?_)
  refine wpAny_bind (wpAny_typeOf hTs ?_)
  rw [if_pos (by decide)]
  refine wpAny_bind (applied_rev hs pl pu ps ?_)
  have hno : ¬ ((((items.size : Int) - 1) == 0 && (-1 : Int) == 1 && items.size == items.size) = true) := by
    rw [show ((-1 : Int) == 1) = false by decide, Bool.and_false, Bool.false_and]
    exact Bool.false_ne_true
  show wpAny _ _ (if (((items.size : Int) - 1) == 0 && (-1 : Int) == 1 && items.size == items.size) = true then _ else _) _ _ s
  rw [if_neg hno, pick_rev]
  first
    | exact wpAny_bind (m := Builtin.Tuple.tupleExact _) (wpAny_newObj_type (wpAny_pure ⟨_, rfl, wpAny_pure h⟩) htake)
    | exact wpAny_bind (m := Builtin.Tuple.tupleExact _) (wpAny_newObj_type (wpAny_bind (wpAny_pure (wpAny_pure ⟨_, rfl, wpAny_pure h⟩))) htake)
    | exact wpAny_bind (wpAny_bind (m := Builtin.Tuple.tupleExact _) (wpAny_newObj_type (wpAny_pure (wpAny_pure ⟨_, rfl, wpAny_pure h⟩)) htake))
    | exact wpAny_bind (wpAny_bind (m := Builtin.Tuple.tupleExact _) (wpAny_newObj_type (wpAny_pure ⟨_, rfl, wpAny_pure h⟩) htake))
end
/-- a tuple whose object has no dict -/
def BareT (H : Hp) (a : Addr) (xs : List V) : Prop := ∃ o : Obj, H a = some (.frz o (.tup xs)) ∧ o.dict = none
theorem BareT.sq {K : PySem.W.Frag} {H : Hp} {a : Addr} {xs : List V} (h : BareT H a xs) : SqT K H a xs := by
  obtain ⟨o, e, _⟩ := h
  exact .inl (.inr ⟨o, e⟩)
theorem BareT.to {H H' : Hp} {a : Addr} {xs : List V} (h : BareT H a xs) (s : Same H H') : BareT H' a xs := by
  obtain ⟨o, e, d⟩ := h
  exact ⟨o, s _ _ e, d⟩
theorem bare_ty {K : PySem.W.Frag} {H : Hp} {a : Addr} {xs : List V} (h : BareT H a xs) : TyX K H (.ref a) (.type "tuple") := by
  obtain ⟨o, e, _⟩ := h
  exact .fTuple e
theorem bare_da {K : PySem.W.Frag} {H : Hp} {a : Addr} {xs : List V} {ds : List PyData} (h : BareT H a xs) (r : DaAll K H xs ds) : Da K H (.ref a) (.tuple ds) := .tup h.sq (bare_ty h) r
def rTupIx (K : PySem.W.Frag) : V → List V → Hp → VK → Prop := fun x xs H Q => ∃ p, ∃ ys : List Str, ∃ z j, x = .ref p ∧ xs = [.str z] ∧ SqT K H p (ys.map V.str) ∧ ys[j]? = some z ∧ (∀ m, m < j → ys[m]? ≠ some z) ∧ Q (.int (j : Nat)) H
theorem mt_tupIx {X : Cx} : MtR X "tuple.index" (rTupIx X.K) := mt_tup_index
def tyBare (x : V) (H : Hp) : Prop := ∃ a xs, x = .ref a ∧ BareT H a xs
section
variable {X : Cx}
theorem ty_bare : TyOk X "tuple" tyBare := by
  intro pins σ H s x v I r ty
  obtain ⟨a, xs, rfl, o, e, d⟩ := ty
  cases r
  have z := I.hok a _ e
  obtain ⟨g, _, its, _, o', g', c, _⟩ : ObjOk X.prog X.w H s.heap a (.frz o (.tup xs)) := z
  rw [g] at g'
  cases g'
  refine ⟨⟨o, g, c⟩, fun b e => ?_⟩
  cases e
  exact ⟨o, g, d⟩
theorem call_tuple_bare : CallR X (.type "tuple") (fun xs H Q => ∃ p ys, xs = [.ref p] ∧ SqL X.K H p ys ∧ ∀ l o, H l = none → o.dict = none → Q (.ref l) (upd H l (.frz o (.tup ys)))) := by
  intro pins s σ H xs us Q I r h
  obtain ⟨p, ys, rfl, hq, q⟩ := h
  obtain ⟨u, rfl, rx⟩ := vals1 r
  cases rx
  obtain ⟨its, r', pl, hz⟩ := I.list hq
  have hlen := r'.length
  refine call_tuple_list pl.isList (fun h' kp => ?_) (by simp only [List.size_toArray] <;> omega)
  have I1 : Inv X pins σ H { s with heap := h' } := I.kept (t' := s.toks) kp
  have I2 : Inv X pins σ (upd H h'.objs.size (.frz { cls := .type "tuple", data := .seq its.toArray } (.tup ys))) { s with heap := h'.push { cls := .type "tuple", data := .seq its.toArray } } :=
    I1.laid (t' := s.toks) (fun b o e => Heap.get?_push_of_some _ e) (Nat.le_refl _) (show ObjOk X.prog X.w _ _ _ (.frz { cls := .type "tuple", data := .seq its.toArray } (.tup ys)) from ⟨Heap.get?_push_size _ rfl, hz, its, r', IsTup.new _ _⟩)
  exact ⟨.ref h'.objs.size, _, I2, rfl, q _ _ (I1.hok.fresh (Nat.le_refl _)) rfl⟩
end
section
variable {X : Cx}
/-- a tuple backwards, in a new tuple -/
def tRevT (K : PySem.W.Frag) (te : TE) : TE := fun σ H Q => te σ H fun x H1 => ∃ a xs, x = .ref a ∧ SqT K H1 a xs ∧ ∀ p o, H1 p = none → o.dict = none → Q (.ref p) (upd H1 p (.frz o (.tup xs.reverse)))
theorem pe_revT {e : Expr} {te : TE} {k : Nat} {p1 p2 p3 pos : Pos} (he : PE X e te) : PE X (.Subscript e (.Slice none none (some (.UnaryOp .USub (.Constant (.int 1) k p1) p2)) p3) pos) (tRevT X.K te) := by
  refine ⟨fun pins s σ H Q I h => ?_⟩
  refine Subscript_ (thn (he.run pins s σ H _ I h) fun v s1 ⟨x, H1, I1, r1, q1⟩ => ?_)
  obtain ⟨a, xs, ex, hx, q⟩ := q1
  subst ex
  cases r1
  have hst : PO X (some (.UnaryOp .USub (.Constant (.int 1) k p1) p2)) (tPart (tUn (rU fun i => .int (-i)) (tC (.int 1)))) := po_some (pe_un un_neg pe_int)
  refine wpAny_Slice (thn (po_none.run pins s1 σ H1 (fun o H2 => o = none ∧ H2 = H1) I1 ⟨rfl, rfl⟩) fun vl s2 ⟨l, H2, I2, pl, el, e2⟩ => ?_)
  subst el e2
  refine thn (po_none.run pins s2 σ H2 (fun o H3 => o = none ∧ H3 = H2) I2 ⟨rfl, rfl⟩) fun vu s3 ⟨u, H3, I3, pu, eu, e3⟩ => ?_
  subst eu e3
  refine thn (hst.run pins s3 σ H3 (fun o H4 => o = some (-1) ∧ H4 = H3) I3 ⟨1, rfl, -1, rfl, rfl, rfl⟩) fun vs s4 ⟨o, H4, I4, ps, eo, e4⟩ => ?_
  subst eo e4
  have I5 : Inv X pins σ H4 { s4 with heap := s4.heap.push { cls := .type "slice", data := .fields #[vl, vu, vs] } } := I4.kept (t' := s4.toks) fun b ob q => Heap.get?_push_of_some _ q
  obtain ⟨its, r, ht, hz⟩ := I5.tuple hx
  have hlen : its.toArray.size = xs.length := by rw [List.size_toArray]; exact r.length.symm
  show wpAny (model X.prog X.w) X.A (subscriptTail e (.Slice none none (some (.UnaryOp .USub (.Constant (.int 1) k p1) p2)) p3) (.ref a) (.ref s4.heap.objs.size)) (EP X pins σ Q) X.xe { s4 with heap := s4.heap.push { cls := .type "slice", data := .fields #[vl, vu, vs] } }
  refine tail_any (ops := [.ref a, .ref s4.heap.objs.size]) ht.typeIs PyProof.Rows.slot_tuple_getitem.lookup ?_ (by with_unfolding_all rfl)
  refine getItem_tuple_rev ht (Heap.IsSliceOf.new _ vl vu vs) pl pu ps ?_ (by rw [hlen]; exact hz)
  refine ⟨.ref _, _, I5.laid (t' := s4.toks) (o := .frz { cls := .type "tuple", data := .seq its.toArray.toList.reverse.toArray } (.tup xs.reverse)) (fun b ob q => Heap.get?_push_of_some _ q) (Nat.le_refl _) ?_, rfl, q _ _ (I5.hok.fresh (Nat.le_refl _)) rfl⟩
  exact ⟨Heap.get?_push_size _ rfl, by rw [List.length_reverse]; exact hz, _, r.reverse, IsTup.new _ _⟩
end
end Th
/-! sorted(a tuple of texts) -/
namespace L2
open PySem PySem.Spec PyProof.Rows
section
variable {P : Program} {w : World} {A : Around} {E : Value → Shared → Prop} {s : Shared}
theorem tt_collect {t : Addr} {vs : List Value} {Q : List Value → Shared → Prop} (ht : IsTup s.heap t vs.toArray) (hz : vs.length ≤ sizeLine)
    (fin : ∀ s1 : Shared, (∀ b o, s.heap.get? b = some o → s1.heap.get? b = some o) → s1.gens = s.gens → s1.os = s.os → s.heap.objs.size ≤ s1.heap.objs.size → Q vs s1) :
    wpAny (model P w) A (collect (.ref t)) Q E s := by
  obtain ⟨o, ho, hc, n, hd⟩ := ht
  have hn : (s.heap.push (seqObj "list" #[] 0)).get? s.heap.objs.size = some (seqObj "list" #[] 0) := Heap.get?_push_size _ rfl
  unfold collect
  refine wpAny_bind (wpAny_runValue (codeAny_builtin entry_proto_collect' ?_))
  show wpAny _ _ (do again (.builtin "list.__iadd__" ⟨[← newList [], .ref t], []⟩)) _ _ s
  refine wpAny_bind (wpAny_newList (wpAny_pure ⟨Code.quiet_builtin _ (by decide +kernel), codeAny_builtin entry_list_iadd' ?_⟩))
  show wpAny _ _ (Builtin.List.listExtendWith (.ref s.heap.objs.size) (.ref t) (.ref s.heap.objs.size)) _ _ { s with heap := s.heap.push (seqObj "list" #[] 0) }
  have ho' : (s.heap.push (seqObj "list" #[] 0)).get? t = some o := Heap.get?_push_of_some _ ho
  unfold Builtin.List.listExtendWith
  refine wpAny_bind (wpAny_typeOf (T := "tuple") ⟨o, ho', hc⟩ ?_)
  rw [if_pos (by simp)]
  refine wpAny_bind (listItems_at ho' hd (wpAny_bind (listItems_at (xs := #[]) (n := 0) hn rfl ?_)))
  rw [if_neg (by simp)]
  refine wpAny_bind (listUpdate_at (xs := #[]) (n := 0) hn rfl ?_ (Nat.zero_le _) (by rw [Array.size_append, List.size_toArray]; show 0 + vs.length ≤ sizeLine + 1; omega))
  refine wpAny_pure ?_
  show wpAny (model P w) A (do
      let o ← load s.heap.objs.size
      match o.data with
      | .seq xs _ => pure xs.toList
      | _ => unsupported "internal:collect") Q E { s with heap := (s.heap.push (seqObj "list" #[] 0)).update s.heap.objs.size (Obj.mapSeq (· ++ vs.toArray)) }
  refine wpAny_bind (wpAny_load (get?_update_seq hn _) ?_)
  show wpAny _ _ (pure ((#[] : Array Value) ++ vs.toArray).toList) Q E _
  rw [show ((#[] : Array Value) ++ vs.toArray).toList = vs by simp]
  refine wpAny_pure (fin _ (fun b u hb => ?_) rfl rfl ?_)
  · have lt := Heap.lt_size hb
    show ((s.heap.push (seqObj "list" #[] 0)).update s.heap.objs.size (Obj.mapSeq (· ++ vs.toArray))).get? b = some u
    rw [Heap.get?_update_ne _ _ _ _ (Nat.ne_of_lt lt)]
    exact Heap.get?_push_of_some _ hb
  · show s.heap.objs.size ≤ ((s.heap.push (seqObj "list" #[] 0)).update s.heap.objs.size (Obj.mapSeq (· ++ vs.toArray))).objs.size
    rw [Heap.size_update, size_push']
    exact Nat.le_succ _
theorem tt_sorted {a : Addr} {vs : List Value} {l : List Str} {Q : Value → Shared → Prop} (ht : IsTup s.heap a vs.toArray) (hS : StrsAre vs l) (h64 : vs.length < 64)
    (fin : ∀ s' p (out : Array Value) (c : Nat) (ys : List Str), (∀ b o, s.heap.get? b = some o → s'.heap.get? b = some o) → s'.gens = s.gens → s'.os = s.os → s.heap.objs.size ≤ p →
      s'.heap.get? p = some (seqObj "list" out c) → StrsAre out.toList ys → ys.Perm l → sortedS ys = true → Q (.ref p) s') :
    wpAny (model P w) A (call (.builtin "sorted") [.ref a]) Q E s := by
  have hz : vs.length ≤ sizeLine := by rw [sizeLine_eq]; omega
  refine Calls.call_function_entry kind_sorted plain_sorted entry_sorted (args_sorted1 _) ?_
  unfold Builtin.«sorted»
  refine wpAny_bind (m := checkCount "sorted" 1 1 _) (wpAny_pure ?_)
  refine wpAny_bind (tt_collect ht hz fun s1 k1 g1 o1 hz1 => ?_)
  refine wpAny_bind (wpAny_newList ?_ hz)
  have hoL : (s1.heap.push (seqObj "list" vs.toArray 0)).get? s1.heap.objs.size = some (seqObj "list" vs.toArray 0) := Heap.get?_push_size _ rfl
  refine wpAny_bind (wpAny_holding (wpAny_call_entry slot_list_sort ⟨_, hoL, rfl⟩ entry_list_sort
    (list_sort_treeK strKind_oneLt hoL hS.keysOf (fun v₁ v₂ rest e => keyKind_strs (by rw [← e]; exact hS)) h64 fun st' a1 a2 => ⟨_, rfl, ?_⟩) (args_list_sort _)))
  obtain ⟨ys, b1, b2, b3⟩ := sorted_out_str hS a1 a2
  obtain ⟨c, hc⟩ := sortedHeap_at (vs := vs) (out := (arrOf st').map (·.2)) hoL
  refine wpAny_pure ⟨_, rfl, fin _ s1.heap.objs.size _ c ys (fun b u e => ?_) g1 o1 hz1 hc b1 b2 b3⟩
  have q := k1 b u e
  have hlt := Heap.lt_size q
  show (sortedHeap (s1.heap.push (seqObj "list" vs.toArray 0)) s1.heap.objs.size vs _).get? b = some u
  rw [sortedHeap_old (Nat.ne_of_lt hlt) (by rw [size_push']; exact Nat.lt_succ_of_lt hlt)]
  exact Heap.get?_push_of_some _ q
end
section
variable {X : Cx}
def rSortedTT (K : PySem.W.Frag) : List V → Hp → VK → Prop := fun vs H Q => ∃ (a : Addr) (l : List Str), vs = [V.ref a] ∧ SqT K H a (l.map V.str) ∧ l.length < 64 ∧
  ∀ (ys : List Str) (p : Addr), ys.Perm l → sortedS ys = true → H p = none → Q (.ref p) (upd H p (.lst (ys.map V.str)))
theorem cr_sortedTT : CallR X (.builtin "sorted") (rSortedTT X.K) := by
  intro pins s σ H vs us Q I r h
  obtain ⟨a, l, rfl, ha, h64, q⟩ := h
  obtain ⟨its, rv, ht, hz⟩ := I.tuple ha
  rw [Vals.ref1 r]
  have hl := rv.length
  rw [List.length_map] at hl
  refine tt_sorted ht rv.strs (by rw [← hl]; exact h64) fun s' p out c ys k g o hp hg hi hs hm => ?_
  have hlen : (ys.map V.str).length ≤ sizeLine := by rw [List.length_map, hs.length_eq, sizeLine_eq]; omega
  have hn : H p = none := I.hok.fresh hp
  have J : Inv X pins σ (upd H p (.lst (ys.map V.str))) { s with heap := s'.heap, gens := s'.gens, drawn := s'.drawn, toks := s'.toks } :=
    I.call (ch := []) (Un.laid k hp hn) (I.hok.laid k hp ⟨hlen, out.toList, c, vals_of_strs hi, hg⟩) (by rw [g]; exact I.bare) (fun _ z => nomatch z)
  have e : s' = { s with heap := s'.heap, gens := s'.gens, drawn := s'.drawn, toks := s'.toks } := by
    cases s'
    cases s
    cases o
    rfl
  rw [e]
  exact ⟨.ref p, _, J, rfl, q ys p hs hm hn⟩
end
end L2
/-! own exceptions with fields, over any built-in class: made, stored into, raised -/
namespace PySem
namespace XG
open PySem.W PySem.Calls PyProof.Rows
open Builtin Builtin.ObjectAttr
section
variable {prog : Program} {w : World} {A : Around} {R : Result → Shared → Prop} {hp : Heap} {g : Array GenState} {d : Drawn} {t : Nat} {os : OsState}
variable {K : W.Frag} {name : Str} {tk : Tok} {v : Value} {x C t1 : Addr} {B : String} {bmB : List Value}
abbrev rec_ (C t1 : Addr) (dv : Option Addr) : Obj := { cls := .ref C, dict := dv, data := .fields #[.ref t1, .none, .none, .none, .bool false, .none] }
/-- x.name = v, x without a dict as yet -/
theorem first_store (SF : StoreFacts B bmB "object.__setattr__" "object") (X : K.In hp) (hx : hp.get? x = some (rec_ C t1 none)) (ov : excOver K C bmB = true) (ht : takerIn K C name = some none) (hh : hasDictIn K C = true)
    (hq : ∀ h' tk' dx, (∀ b o, b ≠ x → hp.get? b = some o → h'.get? b = some o) → hp.objs.size ≤ dx → h'.get? x = some (rec_ C t1 (some dx)) → h'.Ns1 dx (fun y => if y = name then some v else none) → R (.ok (.ret .none)) ⟨h', g, d, tk', os⟩) :
    codeAny (model prog w) A (.call (.builtin "object.__setattr__") ⟨[.ref x, .str name tk, v], []⟩) R ⟨hp, g, d, t, os⟩ := by
  refine osa_openX (s := ⟨hp, g, d, t, os⟩) (od := none) SF X ⟨hx, rfl, rfl, trivial⟩ ov ht fun b => ?_
  obtain ⟨cd, hc, hd⟩ := any_some hh
  have lt : x < hp.objs.size := Heap.lt_size hx
  refine wpAny_bind (wpAny_pure (wpAny_bind (instanceDict_exc hx (looks_clsIn X hc) hd ?_)))
  show wpAny _ _ (storeInDict hp.objs.size (.str name tk) name v) _ _ _
  refine HandSPX.store_in_new (hp := (hp.push (dictOf [] 0)).update x fun o => { o with dict := some hp.objs.size }) ⟨_, #[], 0, (Heap.get?_update_ne _ _ _ _ (Nat.ne_of_gt lt)).trans (Heap.get?_push_at rfl rfl), rfl, fun e he => absurd he (by simp), fun _ => rfl⟩ fun h' tk' hn sm => ?_
  have up : ((hp.push (dictOf [] 0)).update x fun o => { o with dict := some hp.objs.size }).get? x = some (rec_ C t1 (some hp.objs.size)) := Heap.get?_update_self _ (Heap.get?_push_of_some _ hx) rfl
  refine hq h' tk' hp.objs.size (fun b o nb e => ?_) (Nat.le_refl _) ((sm.2 x (Nat.ne_of_lt lt)).trans up) hn
  have e1 := Heap.get?_push_of_some (dictOf [] 0) e
  exact (sm.2 b (Nat.ne_of_lt (Heap.lt_size e))).trans ((Heap.get?_update_ne _ _ _ _ nb).trans e1)
/-- x.name = v, x's dict at dx -/
theorem next_store {dx : Addr} {m0 : Str → Option Value} {nl : List Str} (SF : StoreFacts B bmB "object.__setattr__" "object") (X : K.In hp) (hx : hp.get? x = some (rec_ C t1 (some dx))) (hn : hp.Ns1 dx m0) (hw : Within m0 nl) (hl : nl.length ≤ 1000)
    (ov : excOver K C bmB = true) (ht : takerIn K C name = some none) (hh : hasDictIn K C = true)
    (hq : ∀ h' tk', (∀ b o, b ≠ dx → hp.get? b = some o → h'.get? b = some o) → h'.Ns1 dx (fun y => if y = name then some v else m0 y) → R (.ok (.ret .none)) ⟨h', g, d, tk', os⟩) :
    codeAny (model prog w) A (.call (.builtin "object.__setattr__") ⟨[.ref x, .str name tk, v], []⟩) R ⟨hp, g, d, t, os⟩ := by
  obtain ⟨od, _, _, D, _, _⟩ := hn.count hw
  refine osa_openX (s := ⟨hp, g, d, t, os⟩) (od := some od) SF X ⟨hx, rfl, rfl, D⟩ ov ht fun b => ?_
  obtain ⟨cd, hc, hd⟩ := any_some hh
  refine wpAny_bind (wpAny_pure (wpAny_bind (wpAny_bind (wpAny_loadPart hx (wpAny_bind ((looks_clsIn X hc).here ?_))))))
  rw [hd]
  refine wpAny_pure (a := some dx) ?_
  exact PySem.OEX.store_in_old hn hw hl fun h' tk' hn' sm => hq h' tk' (fun b o nb e => (sm.2 b nb).trans e) hn'
end
end XG
end PySem

namespace L2
open PySem PySem.Spec PyProof.Rows
/-- what the written part says of an own exception class at C -/
structure ExG (K : PySem.W.Frag) (C : Addr) : Prop where
  over : ∃ (B newId initId : String) (bmB : List Value), ExcBaseFacts B newId initId bmB ∧ StoreFacts B bmB "object.__setattr__" "object" ∧ PySem.W.excInitIn K C bmB newId = true ∧ PySem.W.excOver K C bmB = true
  sa : PySem.W.findIn K (.ref C) "__setattr__" = some (some (.builtin "object.__setattr__"))
  exC : PySem.W.subIn K (.ref C) (.type "BaseException") = some true
  tyC : PySem.W.typeIn K (.ref C) = some (.type "type")
  kC : PySem.W.keepIn K (.ref C) = true
  hd : PySem.W.hasDictIn K C = true
theorem taker_none {K : PySem.W.Frag} {C : Addr} {f : Str} (h : PySem.W.findIn K (.ref C) f = some none) : PySem.W.takerIn K C f = some none := by
  unfold PySem.W.takerIn
  rw [h]
  rfl
section
variable {X : Cx} {pins : List (Addr × Obj)} {σ : St} {H : Hp} {s : Shared} {a C dx : Addr} {f : Str} {y : V} {u : Value} {fs : List (Str × V)} {Q : Unit → Shared → Prop} {E : Value → Shared → Prop} {A : Around}
theorem put_first (T : ExG X.K C) (I : Inv X pins σ H s) (e : H a = some (exo a C none)) (nf : PySem.W.findIn X.K (.ref C) f = some none) (ry : RelV y u)
    (h : ∀ dx s', H dx = none → dx ≠ a → Inv X pins σ (upd (upd H dx (exd dx [(f, y)])) a (exo a C (some dx))) s' → Q () s') : wpAny (model X.prog X.w) A (setAttr (.ref a) f u) Q E s := by
  obtain ⟨B, newId, initId, bmB, FB, SF, ini, ov⟩ := T.over
  obtain ⟨t1, ho⟩ := exo_at I.hok e
  obtain ⟨hp, g, d, t, os⟩ := s
  refine PySem.W.set_plain I.kIn (ox := PySem.XG.rec_ C t1 none) (od := none) ⟨ho, rfl, rfl, trivial⟩ T.sa ?_
  refine PySem.XG.first_store SF I.kIn ho ov (taker_none nf) T.hd fun h' tk' dx k dn hx hn => ?_
  have fr : H dx = none := I.hok.fresh dn
  have ne : dx ≠ a := fun z => Nat.lt_irrefl _ (Nat.lt_of_lt_of_le (by rw [← z] at ho; exact Heap.lt_size ho) dn)
  -- the dict is laid ahead of the object's change
  have g1 : (h'.update a fun _ => PySem.XG.rec_ C t1 none).get? a = some (PySem.XG.rec_ C t1 none) := Heap.get?_update_self _ hx rfl
  have g2 : ∀ b, b ≠ a → (h'.update a fun _ => PySem.XG.rec_ C t1 none).get? b = h'.get? b := fun b nb => Heap.get?_update_ne _ _ _ _ nb
  have I1 : Inv X pins σ (upd H dx (exd dx [(f, y)])) ⟨h'.update a fun _ => PySem.XG.rec_ C t1 none, g, d, tk', os⟩ := by
    refine I.laid (t' := tk') (a := dx) (o := exd dx [(f, y)]) (h' := h'.update a fun _ => PySem.XG.rec_ C t1 none) (fun b o q => ?_) dn (exd_ok (hn.at fun o q => (g2 dx ne).trans q) fun z => ?_)
    · by_cases hb : b = a
      · subst hb
        rw [show hp.get? b = some o from q] at ho
        cases ho
        exact g1
      · exact (g2 b hb).trans (k b o hb q)
    · have z2 := relO_put (f := f) (fs := []) (mA := fun _ => none) ry (fun _ => trivial) z
      exact z2
  have I2 := I1.write (t' := tk') (x := a) (e := a) (o := exo a C (some dx)) (h' := h') (by rw [upd_ne ne.symm, e]; exact True.intro) (.inl rfl) (fun b o nb q => (g2 b nb).symm.trans q) ⟨_, hx⟩ (exo_ok hx)
  exact h dx _ fr ne I2
theorem put_next (T : ExG X.K C) (I : Inv X pins σ H s) (e : H a = some (exo a C (some dx))) (ed : H dx = some (exd dx fs)) (hl : fs.length ≤ 900) (nf : PySem.W.findIn X.K (.ref C) f = some none) (ry : RelV y u)
    (h : ∀ s', Inv X pins σ (upd H dx (exd dx ((f, y) :: fs))) s' → Q () s') : wpAny (model X.prog X.w) A (setAttr (.ref a) f u) Q E s := by
  obtain ⟨B, newId, initId, bmB, FB, SF, ini, ov⟩ := T.over
  obtain ⟨t1, ho⟩ := exo_at I.hok e
  obtain ⟨mA, hns, rel⟩ := exd_at I.hok ed
  have wi := within_of rel
  obtain ⟨hp, g, d, t, os⟩ := s
  obtain ⟨oD, _, _, D, _, _⟩ := hns.count wi
  refine PySem.W.set_plain I.kIn (ox := PySem.XG.rec_ C t1 (some dx)) (od := some oD) ⟨ho, rfl, rfl, D⟩ T.sa ?_
  refine PySem.XG.next_store SF I.kIn ho hns wi (by rw [List.length_map]; omega) ov (taker_none nf) T.hd fun h' tk' k hn => ?_
  have there : ∃ o, h'.get? dx = some o := let ⟨o, _, _, q, _⟩ := hn; ⟨o, q⟩
  exact h _ (I.write (t' := tk') (x := dx) (e := dx) (o := exd dx ((f, y) :: fs)) (by rw [ed]; exact True.intro) (.inl rfl) k there (exd_ok hn (relO_put ry rel)))
end
/-- self.f = e in such a class's __init__ -/
def tPut (K : PySem.W.Frag) (f : Str) (to te : TE) : TS := fun D σ H => te σ H fun y H1 => to σ H1 fun x H2 => ∃ a C : Addr, x = .ref a ∧ ExG K C ∧ PySem.W.findIn K (.ref C) f = some none ∧
  ((H2 a = some (exo a C none) ∧ ∀ dx, H2 dx = none → dx ≠ a → D.nx σ (upd (upd H2 dx (exd dx [(f, y)])) a (exo a C (some dx)))) ∨
    ∃ (dx : Addr) (fs : List (Str × V)), H2 a = some (exo a C (some dx)) ∧ H2 dx = some (exd dx fs) ∧ fs.length ≤ 900 ∧ D.nx σ (upd H2 dx (exd dx ((f, y) :: fs))))
theorem ps_put {X : Cx} {o e : Expr} {to te : TE} {f : Str} {p' pos : Pos} (ho : PE X o to) (he : PE X e te) (hs : swapsWith e (some (.Attribute o f p')) pos.line X.env = pure false := by rfl) : PS X (.Assign [.Attribute o f p'] e pos) (tPut X.K f to te) := by
  constructor
  intro pins s σ H D I h
  refine plainObj_wpAny_Assign_Attribute (thn (he.run pins s σ H _ I h) fun v s1 hv => ?_) hs
  obtain ⟨y, H1, I1, ry, q1⟩ := hv
  refine thn (ho.run pins s1 σ H1 _ I1 q1) fun u s2 hu => ?_
  obtain ⟨x, H2, I2, rx, a, C, ex, T, nf, q⟩ := hu
  subst ex
  obtain rfl : u = Value.ref a := rx
  rcases q with ⟨ea, q⟩ | ⟨dx, fs, ea, ed, hl, q⟩
  · exact put_first T I2 ea nf ry fun dx s' n ne J => ⟨σ, _, J, q dx n ne⟩
  · exact put_next T I2 ea ed hl nf ry fun s' J => ⟨σ, _, J, q⟩
/-- C(e, ..) -/
def tNewX (C : Addr) (sp : Sp) (ta : TA) : St → Hp → XK → Prop := fun σ H Q => ta σ H fun vs H1 => vs.length ≤ 1000 ∧ ∀ a, H1 a = none → sp (.ref a :: vs) (upd H1 a (exo a C none))
  (fun v H2 => v = .non ∧ ∃ (d : Addr) (fs : List (Str × V)), H2 a = some (exo a C (some d)) ∧ H2 d = some (exd d fs) ∧ H1 d = none ∧ Q (.ref C) (some d) (upd (del H2 a) d (.xd fs))) (fun _ _ _ => False)
theorem pmk_new {X : Cx} {x : Str} {C fI : Addr} {k : Nat} {fd : FuncData} {ps : List Str} {sp : Sp} {e : Expr} {es : List Expr} {ta : TA} {p pos : Pos} (T : ExG X.K C) (iC : PySem.W.findIn X.K (.ref C) "__init__" = some (some (.ref fI))) (tI : PySem.W.typeIn X.K (.ref fI) = some (.type "function"))
    (F1 : FnOk X.prog X.w X.K X.mg X.base CX0 k fI fd ps sp) (hr : Room (k + 1) X.A) (hb : Binds X.K fd ps []) (hg : Gl X x) (hm : X.mg x = some (.ref C)) (ha : PA X (e :: es) ta)
    (hdb : (x == ("__debug__" : Str)) = false := by decide) (he : starEach (e :: es) X.env = (false, eval e X.env) :: starEach es X.env := by rfl) (hpl : (backTo pos (starEach es X.env)).any (·.1) = false := by rfl) :
    PMk X (.Call (.Name x p) (e :: es) [] pos) (tNewX C sp ta) := by
  intro pins s σ H Q I h
  obtain ⟨B, newId, initId, bmB, FB, SF, ini, ov⟩ := T.over
  refine wpAny_Call_Name_kw (ld_glob I hg hm ?_ hdb)
  refine PySem.W.callWith_K (h₀ := X.base) I.ok.mod.kin T.kC (thn (ha.run pos pins s σ H _ I h) fun us s1 hu => ?_) he hpl
  obtain ⟨vs, H1, I1, r1, hz, q1⟩ := hu
  refine ⟨I1.kIn, ?_⟩
  obtain ⟨nm, N, qn, bs, bm, hdct, sn, sub, ab, col, dd, k0, k1, k2, k3, k5, hC, hT⟩ := PySem.W.excInit_of I1.kIn ini
  obtain ⟨hp, g, dr, tk, os⟩ := s1
  have up1 : hp.objs.size ≤ (hp.objs.size + 1) := Nat.le_succ _
  have fr : H1 (hp.objs.size + 1) = none := I1.hok.fresh up1
  have got : ((hp.push (PySem.W.kdv_tup us)).push (PySem.HandSPX.excO C hp.objs.size)).get? (hp.objs.size + 1) = some (PySem.HandSPX.excO C hp.objs.size) := by heap_get
  have two : ∀ b o, hp.get? b = some o → ((hp.push (PySem.W.kdv_tup us)).push (PySem.HandSPX.excO C hp.objs.size)).get? b = some o := fun b o q => Heap.get?_push_of_some _ (Heap.get?_push_of_some _ q)
  have I2 := I1.laid (t' := tk) (a := (hp.objs.size + 1)) (o := exo (hp.objs.size + 1) C none) (h' := (hp.push (PySem.W.kdv_tup us)).push (PySem.HandSPX.excO C hp.objs.size)) two up1 (exo_ok got)
  have want := q1 (hp.objs.size + 1) fr
  have r2 : Vals (V.ref (hp.objs.size + 1) :: vs) (Value.ref (hp.objs.size + 1) :: us) := .cons rfl r1
  have len : (Value.ref (hp.objs.size + 1) :: us).length = ps.length := r2.length.symm.trans (F1.len _ _ _ _ want)
  have short : us.length ≤ sizeLine := by
    rw [← Paired.length r1, sizeLine_eq]
    omega
  have hbb := hb _ (Value.ref (hp.objs.size + 1) :: us) I2.kIn (by rw [List.append_nil]; exact len)
  rw [List.append_nil] at hbb
  have run := F1.run _ X.stack _ _ ⟨Value.ref (hp.objs.size + 1) :: us, []⟩ (Value.ref (hp.objs.size + 1) :: us) _ _ (fun _ _ _ => False) (hr.make C us []) (I2.env0.make C us []) hbb r2 want
  refine wpAny_call (PySem.HandSPX.call_own FB hT hC (PySem.W.looks_findIn I1.kIn iC) (fun self => PySem.W.bind_fn I1.kIn self tI) short (codeAny_mono run fun r s' z => ?_))
  cases r with
  | error er => exact z.elim
  | ok fl =>
    cases fl with
    | next => exact z.elim
    | brk => exact z.elim
    | cont => exact z.elim
    | ret u =>
      obtain ⟨v, H2, os2, bare, un, hok, rv, ev, d, fs, ea, ed, hd1, q2⟩ := z
      subst ev
      obtain ⟨h2, g2, d2, t2, os'⟩ := s'
      exact ⟨rv, mk_end (raises_own T.exC T.tyC) I1 up1 two un hok os2 bare ea ed hd1 q2⟩
end L2
/-! an exception caught by a clause of two classes, its fields read, also in a def that it is handed to; a lambda called in a try -/
namespace PySem
namespace XG
theorem fly_on {base h h' : Heap} {l : List Env} {e : Addr} {Z : Obj → Prop} (F : HandSPX.FlyingZ base l e Z h) (k : ∀ b o, h.get? b = some o → h'.get? b = some o) : HandSPX.FlyingZ base l e Z h' := by
  obtain ⟨f1, f2, f3, oe, ws, T, oT, ts, g1, g2, g3, g4, g5, g6, g7, g8, g9⟩ := F
  exact ⟨fun b o q => k b o (f1 b o q), f2, f3.of_keeps fun b o q _ => ⟨o, k b o q, rfl⟩, oe, ws, T, oT, ts, k _ _ g1, g2, g3, g4, g5, g6, k _ _ g7, g8, g9⟩
end XG
end PySem
namespace L2
open PySem PySem.Spec PyProof.Rows L2H
/-! ### a field of a pinned exception -/
/-- the pinned exception: class C, its dict at dd -/
structure PinX (p : Addr × Obj) (C dd : Addr) : Prop where
  z : Zc (.ref C) (some dd) p.2
  f : ∃ vs, p.2.data = .fields vs
def tPinf (K : PySem.W.Frag) (p : Addr × Obj) (f : Str) (te : TE) : TE := fun σ H Q => te σ H fun x H1 => x = .ref p.1 ∧ ∃ (C dd : Addr) (fs : List (Str × V)) (v : V), PinX p C dd ∧ XfC K C ∧ PySem.W.findIn K (.ref C) f = some none ∧ H1 dd = some (.xd fs) ∧ fs.lookup f = some v ∧ Q v H1
theorem pe_pinf {X : Cx} {p : Addr × Obj} {e : Expr} {te : TE} {pos : Pos} {n : Str} (hp : p ∈ X.pn) (he : PE X e te) (hb : attributeBase e n X.env (eval e X.env) = eval e X.env := by rfl) : PE X (.Attribute e n pos) (tPinf X.K p n te) := by
  constructor
  intro pins s σ H Q I h
  refine attr_of hb (thn (he.run pins s σ H _ I h) fun u s1 hu => ?_)
  obtain ⟨x, H1, I1, rx, ex, C, dd, fs, v, P, T, nf, ea, l, q⟩ := hu
  subst ex
  obtain rfl : u = Value.ref p.1 := rx
  have at_ := (I1.pin p (List.mem_append_left _ hp)).1
  obtain ⟨vs, hd⟩ := P.f
  have held : ObjOk X.prog X.w H1 s1.heap dd (.xd fs) := I1.hok dd _ ea
  obtain ⟨mA, hns, rel⟩ := held
  obtain ⟨od, ho, hl⟩ := lookIn_ns hns
  obtain ⟨w, hw, rw⟩ := RelO.some_of (v := v) (o := mA n) (by rw [← l]; exact rel n)
  have J : PySem.W.InstAt s1.heap p.1 p.2 C (some od) := by
    refine ⟨at_, P.z.1, ?_, by rw [P.z.2]; exact ho⟩
    unfold PySem.W.notCls
    rw [hd] <;> rfl
  exact HandSPX.exc_get I1.kIn J T.ga T.gg T.exC (PySem.W.findObj_own T.hdC nf rfl (by rw [hl, hw])) (handed_of rw) ⟨v, H1, I1.tok _, rw, q⟩
/-! ### a def called in an except suite that raises nothing -/
structure FnQ (P : Program) (w : World) (K : PySem.W.Frag) (mg : Str → Option Value) (base : Heap) (k : Nat) (f : Addr) (fd : FuncData) (ps : List Str) (sp : Addr × Obj → Sp) : Prop where
  len : ∀ p vs H Q E, sp p vs H Q E → vs.length = ps.length
  run : ∀ (A : Around) (outer : List Env) (s : Shared) (H : Hp) (args : Args) (us : List Value) (vs : List V) (Q : VK) (E : XK) (p : Addr × Obj), RoomH k A → PinOk outer H s p → Env0 P w K mg base A outer s H → BindsTo s fd args (ps.zip us) → Vals vs us → sp p vs H Q E →
    codeAny (model P w) A (.call (.ref f) args) (CR CX0 outer P w H s Q E) s
theorem quiet_ok {P : Program} {w : World} {K : PySem.W.Frag} {mg : Str → Option Value} {base : Heap} {x qual : Str} {st : Stmt} {f : Addr} {fd : FuncData} {N ps : List Str} {k : Nat} {sp : Addr × Obj → Sp} (F : Fun K x qual st f fd) (S : FnScope N ps (defScope st)) (len : ∀ p vs H Q E, sp p vs H Q E → vs.length = ps.length)
    (hbody : ∀ (cdv : Value) (A : Around) (outer : List Env) (s : Shared) (H : Hp) (vs : List V) (Q : VK) (E : XK) (p : Addr × Obj), RoomH k (A.deeper (envOfC qual (defScope st) s.heap.objs.size f cdv)) → sp p vs H Q E →
      ∃ t, PSs (cxH CX0 P w K mg base N qual (defScope st) f cdv A outer s H E p) (defBody st) t ∧ t { nx := fun _ H' => Q .non H', rt := Q } (L2.start N vs) H) : FnQ P w K mg base (k + 1) f fd ps sp := by
  obtain ⟨oc, od, kV, doc, pm, an, cdv, ct, osl, rfl, lk, hcd⟩ := F.ex
  refine ⟨len, fun A outer s H args us vs Q E p hr pin e0 hb r hsp => ?_⟩
  have inK : K.In s.heap := e0.mod.kin.keeps fun b o e => (e0.bs b o e).1
  have kinds : ∀ y ∈ ps.zip us, (defScope st).names.lookup y.1 = some .local ∨ ((defScope st).names.lookup y.1 = some .cell ∧ ((cellsFrom (s.heap.objs.size + 1) (defScope st).names []).lookup y.1).isSome = true) := by
    rintro ⟨n, v⟩ hy
    rcases S.par n (List.of_mem_zip hy).1 with q | q
    · exact .inl q
    · exact .inr ⟨q, PySem.W.cellsFrom_some _ _ _ (.inl q)⟩
  refine codeAny_call_function hr.depth (inK _ _ lk) rfl S.co S.gen rfl (PySem.W.codeRec_of inK hcd) (hb _ _ _ _ ?_)
  refine wpAny_newFunctionEnv_cells S.kind kinds fun env he s1 x => ?_
  subst he
  refine ⟨(e0.mod.nolimit.keeps fun b o e => (e0.bs b o e).1).keeps x.toInCall.keep, codeAny_func ?_⟩
  obtain ⟨t, ht, hq⟩ := hbody cdv A outer s H vs Q E p (hr.deeper _) hsp
  have I := inv_startH (CX := CX0) (K := K) (mg := mg) (base := base) (P := P) (w := w) (E := E) (A := A) (qual := qual) (f := f) (cd := cdv) S pin e0 (len _ _ _ _ _ hsp) r x
  refine wpAny_mono (ht.run [] s1 (L2.start N vs) H _ I hq) (fun fl s' hs => ?_) fun e s' hs => hs
  cases fl with
  | ret u =>
    obtain ⟨v, σ', H', J, rv, q⟩ := hs
    exact ⟨v, H', J.os, J.bare, J.base, J.hok, rv, q⟩
  | next =>
    obtain ⟨σ', H', J, q⟩ := hs
    exact ⟨V.non, H', J.os, J.bare, J.base, J.hok, rfl, q⟩
  | brk =>
    obtain ⟨_, _, _, q⟩ := hs
    exact False.elim q
  | cont =>
    obtain ⟨_, _, _, q⟩ := hs
    exact False.elim q
theorem pe_callQ {X : Cx} {k : Nat} {f : Addr} {fd : FuncData} {ps : List Str} {sp : Addr × Obj → Sp} {x : Str} {q pos : Pos} {e : Expr} {es : List Expr} {t : TA} {p : Addr × Obj} (hp : p ∈ X.pn) (F : FnQ X.prog X.w X.K X.mg X.base k f fd ps sp) (hr : RoomH k X.A) (hg : Gl X x) (hm : X.mg x = some (.ref f)) (hk : PySem.W.keepIn X.K (.ref f) = true) (hb : Binds X.K fd ps [])
    (ha : PA X (e :: es) t) (hdb : (x == ("__debug__" : Str)) = false := by decide) (he : starEach (e :: es) X.env = (false, eval e X.env) :: starEach es X.env := by rfl) (hpl : (backTo pos (starEach es X.env)).any (·.1) = false := by rfl) :
    PE X (.Call (.Name x q) (e :: es) [] pos) (fun σ H Q => t σ H fun vs H1 => sp p vs H1 Q E0) := by
  constructor
  intro pins s σ H Q I h
  refine wpAny_Call_Name_kw (ld_glob I hg hm ?_ hdb)
  refine PySem.W.callWith_K (h₀ := X.base) I.ok.mod.kin hk (thn (ha.run pos pins s σ H _ I h) fun us s1 hu => ?_) he hpl
  obtain ⟨vs, H1, I1, r, hq⟩ := hu
  refine ⟨I1.kIn, ?_⟩
  have b := hb s1 us I1.kIn (by rw [List.append_nil, ← r.length]; exact F.len _ _ _ _ _ hq)
  rw [List.append_nil] at b
  obtain ⟨p1, p2, p3, p4, p5⟩ := I1.pin p (List.mem_append_left _ hp)
  have pin : PinOk X.stack H1 s1 p := ⟨p1, p2, fun hm => (List.mem_cons.mp (I1.stkSub p.1 hm)).elim p3 p4, p5⟩
  refine wpAny_call (codeAny_mono (F.run X.A X.stack s1 H1 ⟨us, []⟩ us vs Q E0 p hr pin I1.env0 b r hq) fun r s' z => ?_)
  cases r with
  | error e => exact (show False from z).elim
  | ok fl =>
    cases fl with
    | ret u => exact I1.after z
    | next => exact False.elim z
    | brk => exact False.elim z
    | cont => exact False.elim z
/-! ### try: body, except (x1, x2) as n: suite; nothing else flies -/
def wTwo (K : PySem.W.Frag) (c1 c2 : Value) (i : Nat) (ts : Addr → Value → Option Addr → TS) (D : Ends) : WX := fun cls d σ H => PySem.W.exmAny K cls [c1, c2] = some true ∧
  ∀ a, H a = none → i < σ.length → ts a cls d { nx := fun σ' H' => D.nx (σ'.set i none) H', rt := D.rt, bk := fun σ' H' => D.bk (σ'.set i none) H', ct := fun σ' H' => D.ct (σ'.set i none) H' } (σ.set i (some (.ref a))) H
section
variable {X : Cx} {x1 x2 n : Str} {c1 c2 : Value} {i j : Nat} {body suite : List Stmt} {b₀ : Stmt} {q1 q2 q3 pos pos' : Pos} {tb : WX → TS} {ts : Addr → Value → Option Addr → TS}
theorem ps_try_two (hs : X.stack = X.env :: X.outer) (hf : X.env.frame = some X.env.locals) (hN : X.N.Nodup) (hi : X.N[i]? = some n) (hln : X.env.kindOf n = some .local)
    (g1 : Gl X x1) (d1 : (x1 == ("__debug__" : Str)) = false) (m1 : X.mg x1 = some c1) (g2 : Gl X x2) (d2 : (x2 == ("__debug__" : Str)) = false) (m2 : X.mg x2 = some c2)
    (hb : ∀ (W : WX) (pn : List (Addr × Obj)) (xe : Value → Shared → Prop), Takes (X.tr pn xe) W → PSs (X.tr pn xe) body (tb W))
    (hsu : ∀ (a : Addr) (oe : Obj) (cls : Value) (d : Option Addr) (pn : List (Addr × Obj)), Zc cls d oe → (∃ vs, oe.data = .fields vs) → PSs (X.suite a ((a, oe) :: pn)) (b₀ :: suite) (ts a cls d)) :
    PS X (.Try body [.ExceptHandler (some (.Tuple [.Name x1 q1, .Name x2 q2] j q3)) (some n) (b₀ :: suite) pos'] [] [] pos) (fun D σ H => tb (wTwo X.K c1 c2 i ts D) D σ H) := by
  constructor
  intro pins s σ H D I h
  have ok := I.ok
  refine wpAny_Try_except (wpAny_mono ((hb (wTwo X.K c1 c2 i ts D) (X.pn ++ pins) _ ?tk).run [] s σ H D (I.toTry _) h) ?_ fun e s1 he => he)
  case tk =>
    rintro u s' ⟨a, B, sI, pins', σ', H', cls, d, rfl, J', nb, up, sky, na, os, ag, ex, want⟩
    have J : Inv X pins σ' H' sI := J'.ofTry ok
    have hfr : X.A.frames = some (X.env :: X.outer) := by rw [ok.frames, hs]
    rw [show (X.tr (X.pn ++ pins) _).stack = X.env :: X.outer from hs] at sky
    show wpAny (model X.prog X.w) X.A (noteFrame (.ref a) X.env) _ _ _
    refine Sky.land Zc.steady hfr hf sky fun h3 fl3 up3 => ?_
    have J3 : Inv X pins σ' H' { s' with heap := h3 } := J.landed nb fl3.1 (up.trans up3) os ag
    obtain ⟨oe3, vs3, he3, hz3, hd3⟩ := fl3.there
    -- the exception is no frame
    have off : a ∉ frs (X.env :: X.outer) := fun hm => by
      obtain ⟨_, o', e', hnf⟩ := fl3.2.2.1.mem hm
      rw [he3] at e'
      cases e'
      exact hnf _ hd3
    have nL : a ≠ X.env.locals := fun z => off (List.mem_filterMap.mpr ⟨X.env, List.mem_cons_self, by rw [hf, z]⟩)
    have nF : a ∉ X.fs := fun hm => by
      obtain ⟨e, he, q⟩ := List.mem_filterMap.mp hm
      exact off (List.mem_filterMap.mpr ⟨e, List.mem_cons_of_mem _ he, q⟩)
    have S3 := J3.suite he3 hd3 na nL nF
    refine PySem.W.exc_clause_as ?_
    refine wpAny_Tuple (wpAny_items_cons (ld_glob (X := X.suite a ((a, oe3) :: (X.pn ++ pins))) S3 g1 m1 ?_ d1))
    refine wpAny_items_cons (ld_glob (X := X.suite a ((a, oe3) :: (X.pn ++ pins))) S3 g2 m2 ?_ d2)
    refine wpAny_items_nil ⟨by size_fits, ?_⟩
    have kp : ∀ q o, h3.get? q = some o → (h3.push { cls := .type "tuple", data := .seq [c1, c2].toArray }).get? q = some o := fun _ _ z => Heap.get?_push_of_some _ z
    have LT : PySem.W.Looks (model X.prog X.w) h3 (typeOf (.ref a)) cls := fun A Q E s k q => wpAny_typeOf_ref (k _ _ he3) (by rw [hz3.1]; exact q)
    refine ⟨true, PySem.W.exm_tup2 (J3.kIn.keeps kp) (LT.keeps kp) (Heap.get?_push_size h3 rfl) ex, ?_⟩
    rw [if_pos rfl]
    have up3' := (up.trans up3).trans (Heap.UpToSlots.of_keeps kp)
    refine HandSPX.lands_againZ (PySem.XG.fly_on fl3 kp) fun h4 fl4 up4 => ?_
    have J4 : Inv X pins σ' H' { s' with heap := h4 } := J.landed nb fl4.1 (up3'.trans up4) os ag
    obtain ⟨oe4, vs4, he4, hz4, hd4⟩ := fl4.there
    have S4 := J4.suite he4 hd4 na nL nF
    refine store_ok (X := X.suite a ((a, oe4) :: (X.pn ++ pins))) (v := .ref a) S4 hN hi (.inl hln) rfl (fun s5 S5 => ?_) (.inr hln)
    refine wpAny_mono ((hsu a oe4 cls d (X.pn ++ pins) hz4 ⟨_, hd4⟩).run [] s5 _ H' _ S5 (want a na (by rw [J.len]; exact (List.getElem?_eq_some_iff.mp hi).1))) (fun f s6 hsp => ?_) fun _ _ z => False.elim z
    have gone : ∀ {σ6 : St} {H6 : Hp} {Q : Shared → Prop}, Inv (X.suite a ((a, oe4) :: (X.pn ++ pins))) [] σ6 H6 s6 → (∀ s7, Inv X pins (σ6.set i none) H6 s7 → Q s7) →
        wpAny (model X.prog X.w) X.A (do bindName X.env n .none; unbindBehindTheSuite X.env n pos') (fun _ s7 => Q s7) X.xe s6 := fun S6 hq => gone_ok (S6.unsuite ok) hN hi hln hq
    cases f with
    | ret u =>
      obtain ⟨v6, σ6, H6, S6, r6, q6⟩ := hsp
      exact gone S6 fun s7 J7 => ⟨_, _, _, J7, r6, q6⟩
    | next =>
      obtain ⟨σ6, H6, S6, q6⟩ := hsp
      exact gone S6 fun s7 J7 => ⟨_, _, J7, q6⟩
    | brk =>
      obtain ⟨σ6, H6, S6, q6⟩ := hsp
      exact gone S6 fun s7 J7 => ⟨_, _, J7, q6⟩
    | cont =>
      obtain ⟨σ6, H6, S6, q6⟩ := hsp
      exact gone S6 fun s7 J7 => ⟨_, _, J7, q6⟩
  · intro f s1 hsp
    cases f with
    | next =>
      obtain ⟨σ', H', J', q⟩ := hsp
      exact wpAny_execs_nil ⟨σ', H', J'.ofTry ok, q⟩
    | ret u =>
      obtain ⟨v, σ', H', J', r, q⟩ := hsp
      exact ⟨v, σ', H', J'.ofTry ok, r, q⟩
    | brk =>
      obtain ⟨σ', H', J', q⟩ := hsp
      exact ⟨σ', H', J'.ofTry ok, q⟩
    | cont =>
      obtain ⟨σ', H', J', q⟩ := hsp
      exact ⟨σ', H', J'.ofTry ok, q⟩
end
end L2
/-! what the laws' proofs share about errors: their promises, the fields, a lambda called in a try -/
namespace Th
open PySem PySem.Spec PyProof.Rows L2
/-! ### what stays but for tables of code and exceptions being made -/
def Plain (o : HO) : Prop := (∀ φ, o ≠ .ext φ) ∧ ∀ ps, o ≠ .tbl ps
def KeepD (H H' : Hp) : Prop := ∀ b o, H b = some o → Plain o → H' b = some o
theorem KeepD.of {H H' : Hp} (s : Same H H') : KeepD H H' := fun b o e _ => s b o e
theorem KeepD.trans {H H1 H2 : Hp} (a : KeepD H H1) (b : KeepD H1 H2) : KeepD H H2 := fun c o e p => b c o (a c o e p) p
theorem KeepD.refl (H : Hp) : KeepD H H := fun _ _ e _ => e
theorem keepD_ext {H H' : Hp} (e : LamX.ExtN H H') : KeepD H H' := fun b o h p => e b o h p.2
theorem plain_lst (xs : List V) : Plain (.lst xs) := ⟨fun φ z => (by cases z), fun ps z => (by cases z)⟩
theorem plain_tup (xs : List V) : Plain (.tup xs) := ⟨fun φ z => (by cases z), fun ps z => (by cases z)⟩
theorem plain_frz (o : Obj) (u : HO) : Plain (.frz o u) := ⟨fun φ z => (by cases z), fun ps z => (by cases z)⟩
theorem plain_ins (C dx : Addr) (fs : List (Str × V)) : Plain (.ins C dx fs) := ⟨fun φ z => (by cases z), fun ps z => (by cases z)⟩
theorem plain_dK (kvs : List (Key × V)) : Plain (.dK kvs) := ⟨fun φ z => (by cases z), fun ps z => (by cases z)⟩
theorem plain_dT (kvs : List (List Key × V)) : Plain (.dT kvs) := ⟨fun φ z => (by cases z), fun ps z => (by cases z)⟩
theorem plain_set (S : Int → Bool) (n : Nat) : Plain (.set S n) := ⟨fun φ z => (by cases z), fun ps z => (by cases z)⟩
section
variable {K : PySem.W.Frag} {H H' : Hp}
theorem KeepD.l (e : KeepD H H') {a : Addr} {xs : List V} (h : SqL K H a xs) : SqL K H' a xs := by
  rcases h with (h | ⟨o, h⟩) | h
  · exact .inl (.inl (e _ _ h (plain_lst xs)))
  · exact .inl (.inr ⟨o, e _ _ h (plain_frz o _)⟩)
  · exact .inr h
theorem KeepD.t (e : KeepD H H') {a : Addr} {xs : List V} (h : SqT K H a xs) : SqT K H' a xs := by
  rcases h with (h | ⟨o, h⟩) | h
  · exact .inl (.inl (e _ _ h (plain_tup xs)))
  · exact .inl (.inr ⟨o, e _ _ h (plain_frz o _)⟩)
  · exact .inr h
theorem KeepD.ty (e : KeepD H H') {v : V} {t : Value} (h : TyX K H v t) : TyX K H' v t := by
  cases h with
  | byt b => exact .byt b
  | kList h c => exact .kList h c
  | kTuple h c => exact .kTuple h c
  | kDict h c => exact .kDict h c
  | set h => exact .set (e _ _ h (plain_set _ _))
  | fTuple h => exact .fTuple (e _ _ h (plain_frz _ _))
  | fDict h => exact .fDict (e _ _ h (plain_frz _ _))
  | base b =>
    refine .base ?_
    cases b with
    | non => exact .non
    | bl x => exact .bl x
    | int i => exact .int i
    | str x => exact .str x
    | flt x => exact .flt x
    | lst h => exact .lst (e _ _ h (plain_lst _))
    | frz h => exact .frz (e _ _ h (plain_frz _ _))
    | tup h => exact .tup (e _ _ h (plain_tup _))
    | dK h => exact .dK (e _ _ h (plain_dK _))
    | dT h => exact .dT (e _ _ h (plain_dT _))
    | ins h cl ha hn htk hm => exact .ins (e _ _ h (plain_ins _ _ _)) cl ha hn htk hm
mutual
theorem Da.keepD (e : KeepD H H') : ∀ (d : PyData) (v : V), Da K H v d → Da K H' v d
  | .none, _, h => by cases h; exact .non
  | .bool b, _, h => by cases h; exact .bl b
  | .int i, _, h => by cases h; exact .int i
  | .str x, _, h => by cases h; exact .str x
  | .list ds, _, h => by
    cases h with
    | lst hs ht ha => exact .lst (e.l hs) (e.ty ht) (DaAll.keepD e ds _ ha)
  | .tuple ds, _, h => by
    cases h with
    | tup hs ht ha => exact .tup (e.t hs) (e.ty ht) (DaAll.keepD e ds _ ha)
  | .dict _, _, h => by cases h
theorem DaAll.keepD (e : KeepD H H') : ∀ (ds : List PyData) (vs : List V), DaAll K H vs ds → DaAll K H' vs ds
  | [], _, h => by cases h; exact .nil
  | d :: ds, _, h => by
    cases h with
    | cons h1 h2 => exact .cons (Da.keepD e d _ h1) (DaAll.keepD e ds _ h2)
end
theorem Da.kd {v : V} {d : PyData} (h : Da K H v d) (e : KeepD H H') : Da K H' v d := Da.keepD e d v h
end
theorem KeepD.drw {D : DS} {H H' : Hp} (e : KeepD H H') (d : Drw D H) : Drw D H' := by
  obtain ⟨ne, sc, few, i, v, m, c, st, r⟩ := d
  exact ⟨ne, e _ _ sc (plain_lst _), few, i, v, m, c, e _ _ st (plain_lst _), r⟩
theorem KeepD.go {D : DS} {H H' : Hp} (d : Drw D H) (g : Go D H H') {a : Addr} {o : HO} (h : H a = some o) (ne : a ≠ D.p) : H' a = some o := g.old ne h
theorem Tabs.sm {T : List (Addr × Str)} {H H' : Hp} (t : LamX.Tabs T H) (s : Same H H') : LamX.Tabs T H' := t.ext fun b o e => s b o e
theorem Tabs.go {T : List (Addr × Str)} {D : DS} {H H' : Hp} (t : LamX.Tabs T H) (d : Drw D H) (g : Go D H H') : LamX.Tabs T H' := fun p hp => by
  obtain ⟨ps, h1, h2, h3⟩ := t p hp
  obtain ⟨_, _, _, i, v, m, c, st, _⟩ := d
  have n1 : p.1 ≠ D.p := fun z => by
    rw [z, st] at h1
    cases h1
  refine ⟨ps, g.old n1 h1, h2, fun pos cv hc => ?_⟩
  obtain ⟨c', e1, e2⟩ := h3 pos cv hc
  have n2 : c' ≠ D.p := fun z => by
    rw [z, st] at e2
    unfold LamX.CodeO at e2
    cases e2
  exact ⟨c', e1, g.old n2 e2⟩

/-! ### errors -/
/-- an error that flies: its class by name, its fields -/
structure IsExc (K : PySem.W.Frag) (mg : Str → Option Value) (code : Str) (fs : List (Str × V)) (cls : Value) (d : Option Addr) (H : Hp) : Prop where
  ex : ∃ C dd : Addr, cls = .ref C ∧ d = some dd ∧ XfC K C ∧ (∀ f ∈ fs.map (·.1), PySem.W.findIn K (.ref C) f = some none) ∧ H dd = some (.xd fs) ∧
    ∀ c1 c2, mg "FindError" = some (.ref c1) → mg "Missing" = some (.ref c2) → PySem.W.exmAny K cls [.ref c1, .ref c2] = some true
  code : fs.lookup ("code" : Str) = some (V.str code)
/-- an error class of the program; st: its __init__ -/
structure ErrC (K : PySem.W.Frag) (mg : Str → Option Value) (x : Str) (qual : Str) (st : Stmt) (ps : List Str) (fns : List Str) (C fI : Addr) (fd : FuncData) : Prop where
  m : mg x = some (.ref C)
  g : ExG K C
  xf : XfC K C
  nf : ∀ f ∈ fns, PySem.W.findIn K (.ref C) f = some none
  ini : PySem.W.findIn K (.ref C) "__init__" = some (some (.ref fI))
  tI : PySem.W.typeIn K (.ref fI) = some (.type "function")
  F : Fun K "__init__" qual st fI fd
  b : Binds K fd ps []
  ca : ∀ c1 c2, mg "FindError" = some (.ref c1) → mg "Missing" = some (.ref c2) → PySem.W.exmAny K (.ref C) [.ref c1, .ref c2] = some true
/-- __init__(self, v): self.fld = _copied(v); self.code = code -/
def spInit1 (K : PySem.W.Frag) (code fld : Str) (n : Nat) : Sp := fun vs H Q _ => ∃ (a C : Addr) (v : V) (d : PyData), vs = [.ref a, v] ∧ ExG K C ∧ PySem.W.findIn K (.ref C) fld = some none ∧ PySem.W.findIn K (.ref C) "code" = some none ∧ H a = some (exo a C none) ∧ Da K H v d ∧ LvN n d ∧
  ∀ (H1 : Hp) (v' : V) (dx : Addr), Same H H1 → Da K H1 v' d → H1 dx = none → dx ≠ a → Q .non (upd (upd (upd H1 dx (exd dx [(fld, v')])) a (exo a C (some dx))) dx (exd dx [("code", .str code), (fld, v')]))
theorem new1 {K : PySem.W.Frag} {mg : Str → Option Value} {x qual fld : Str} {st : Stmt} {ps fns : List Str} {C fI : Addr} {fd : FuncData} {n : Nat} {H : Hp} {v : V} {d : PyData} {W : XK} (E : ErrC K mg x qual st ps fns C fI fd) (h1 : fld ∈ fns) (h2 : ("code" : Str) ∈ fns) (hv : Da K H v d) (lv : LvN n d)
    (q : ∀ cls dd v' H', Same H H' → IsExc K mg x [("code", .str x), (fld, v')] cls dd H' → Da K H' v' d → W cls dd H') :
    ([v] : List V).length ≤ 1000 ∧ ∀ a, H a = none → spInit1 K x fld n (.ref a :: [v]) (upd H a (exo a C none)) (fun v H2 => v = .non ∧ ∃ (d : Addr) (fs : List (Str × V)), H2 a = some (exo a C (some d)) ∧ H2 d = some (exd d fs) ∧ H d = none ∧ W (.ref C) (some d) (upd (del H2 a) d (.xd fs))) (fun _ _ _ => False) := by
  refine ⟨by show 1 ≤ 1000; decide, fun a na => ⟨a, C, v, d, rfl, E.g, E.nf _ h1, E.nf _ h2, upd_same, hv.to (same_new na), lv, fun H1 v' dx s hv' nd ne => ?_⟩⟩
  have ea := s _ _ (upd_same (H := H) (a := a) (o := exo a C none))
  have nH : H dx = none := by
    cases e : H dx with
    | none => rfl
    | some o =>
      have := s dx o (by rw [upd_ne ne]; exact e)
      rw [nd] at this
      cases this
  refine ⟨rfl, dx, _, ?_, upd_same, nH, q _ _ v' _ (fun b o e => ?_) ⟨⟨C, dx, rfl, rfl, E.xf, fun f hf => ?_, upd_same, E.ca⟩, rfl⟩ ?_⟩
  · rw [upd_ne ne.symm, upd_same]
  · have nb : b ≠ a := fun z => by rw [z, na] at e; cases e
    have nb2 : b ≠ dx := fun z => by rw [z, nH] at e; cases e
    rw [upd_ne nb2, del_ne nb, upd_ne nb2, upd_ne nb, upd_ne nb2]
    exact s b o (by rw [upd_ne nb]; exact e)
  · rcases List.mem_cons.mp hf with e | m
    · rw [e]; exact E.nf _ h2
    · rw [List.mem_singleton.mp m]; exact E.nf _ h1
  · refine hv'.kd fun b o e p => ?_
    have nb : b ≠ a := fun z => by
      rw [z, ea] at e
      exact p.1 _ (Option.some.inj e).symm
    have nb2 : b ≠ dx := fun z => by rw [z, nd] at e; cases e
    rw [upd_ne nb2, del_ne nb, upd_ne nb2, upd_ne nb, upd_ne nb2]
    exact e
/-- what a def promises that may raise -/
def HasX (P : Program) (w : World) (K : PySem.W.Frag) (mg : Str → Option Value) (base : Heap) (x : Str) (st : Stmt) (k : Nat) (ps : List Str) (sp : Sp) : Prop :=
  ∃ (f : Addr) (fd : FuncData), FnOk P w K mg base (L2.CX P w) k f fd ps sp ∧ mg x = some (.ref f) ∧ PySem.W.keepIn K (.ref f) = true ∧ Binds K fd ps [] ∧ Fun K x x st f fd
def HasQ (P : Program) (w : World) (K : PySem.W.Frag) (mg : Str → Option Value) (base : Heap) (x : Str) (st : Stmt) (k : Nat) (ps : List Str) (sp : Addr × Obj → Sp) : Prop :=
  ∃ (f : Addr) (fd : FuncData), FnQ P w K mg base k f fd ps sp ∧ mg x = some (.ref f) ∧ PySem.W.keepIn K (.ref f) = true ∧ Binds K fd ps [] ∧ Fun K x x st f fd
def HasE (P : Program) (w : World) (K : PySem.W.Frag) (mg : Str → Option Value) (base : Heap) (x qual : Str) (st : Stmt) (ps fns : List Str) (k : Nat) (sp : Sp) : Prop :=
  ∃ (C fI : Addr) (fd : FuncData), ErrC K mg x qual st ps fns C fI fd ∧ FnOk P w K mg base CX0 k fI fd ps sp
theorem passF {X : Cx} : Passes (L2.CX X.prog X.w) X E0 := fun _ _ _ _ _ _ _ h => by
  obtain ⟨_, _, _, _, _, _, _, _, _, _, _, _, z⟩ := h
  exact z.elim
/-- what a try tells of an error: the word, its code, then its fields as Fl says -/
def TTry (K : PySem.W.Frag) (mg : Str → Option Value) (Fl : Str → List (Str × V) → List V → Prop) : (XK → Hp → VK → Prop) → Hp → VK → Prop := fun tl H Q =>
  tl (fun cls d H' => ∃ code fs ws, IsExc K mg code fs cls d H' ∧ Fl code fs ws ∧ ws.length ≤ 1000 ∧ ∀ r H'', Same H' H'' → H' r = none → H'' r = some (.tup (.str "no" :: .str code :: ws)) → Q (.ref r) H'')
    H fun v H1 => ([.str "told", v] : List V).length ≤ sizeLine ∧ ∀ r, H1 r = none → Q (.ref r) (upd H1 r (.tup [.str "told", v]))
/-- the fields of an error in hand, in a tuple -/
def spFields (K : PySem.W.Frag) (mg : Str → Option Value) (Fl : Str → List (Str × V) → List V → Prop) : Addr × Obj → Sp := fun p vs H Q _ => ∃ (C dd : Addr) (code : Str) (fs : List (Str × V)) (ws : List V), vs = [.ref p.1] ∧ PinX p C dd ∧ IsExc K mg code fs (.ref C) (some dd) H ∧ Fl code fs ws ∧ ws.length ≤ 1000 ∧
  ∀ r H', Same H H' → H r = none → H' r = some (.tup ws) → Q (.ref r) H'
end Th
namespace Th
open PySem PySem.Spec PyProof.Rows L2
/-! ### some objects hidden -/
open Classical in
noncomputable def hidS (S : Addr → Prop) (H : Hp) : Hp := fun b => if S b then none else H b
theorem hidS_in {S : Addr → Prop} {H : Hp} {b : Addr} (h : S b) : hidS S H b = none := if_pos h
theorem hidS_out {S : Addr → Prop} {H : Hp} {b : Addr} (h : ¬ S b) : hidS S H b = H b := if_neg h
theorem hidS_some {S : Addr → Prop} {H : Hp} {b : Addr} {o : HO} (h : hidS S H b = some o) : ¬ S b ∧ H b = some o := by
  by_cases z : S b
  · rw [hidS_in z] at h
    cases h
  · rw [hidS_out z] at h
    exact ⟨z, h⟩
theorem hidS_same {S : Addr → Prop} {H : Hp} : Same (hidS S H) H := fun _ _ h => (hidS_some h).2
theorem hidS_mono {S : Addr → Prop} {H H' : Hp} (s : Same H H') : Same (hidS S H) (hidS S H') := fun b o h => by
  obtain ⟨n, e⟩ := hidS_some h
  rw [hidS_out n]
  exact s b o e
/-- one more is hidden, which was not there -/
theorem hidS_more {S : Addr → Prop} {H H' : Hp} {L : Addr} (s : Same H H') (n : H L = none) : Same (hidS S H) (hidS (fun b => S b ∨ b = L) H') := fun b o h => by
  obtain ⟨nb, e⟩ := hidS_some h
  have nL : b ≠ L := fun z => by rw [z, n] at e; cases e
  rw [hidS_out (fun z => z.elim nb nL)]
  exact s b o e
theorem hidS_less {S : Addr → Prop} {H : Hp} {L : Addr} : Same (hidS (fun b => S b ∨ b = L) H) (hidS S H) := fun b o h => by
  obtain ⟨nb, e⟩ := hidS_some h
  rw [hidS_out fun z => nb (.inl z)]
  exact e
theorem hidS_upd {S : Addr → Prop} {H : Hp} {L : Addr} {o : HO} : hidS (fun b => S b ∨ b = L) (upd H L o) = hidS (fun b => S b ∨ b = L) H := by
  funext b
  by_cases z : S b ∨ b = L
  · rw [hidS_in z, hidS_in z]
  · rw [hidS_out z, hidS_out z, upd_ne fun e => z (.inr e)]
end Th
namespace Th
open PySem PySem.Spec PyProof.Rows L2
def tPinA (K : PySem.W.Frag) (i : Nat) (a : Addr) (cls : Value) (d : Option Addr) (n : Str) : TE := fun σ H Q => σ[i]? = some (some (.ref a)) ∧ ∃ (C dd : Addr) (fs : List (Str × V)) (v : V), cls = .ref C ∧ d = some dd ∧ XfC K C ∧ PySem.W.findIn K (.ref C) n = some none ∧ H dd = some (.xd fs) ∧ fs.lookup n = some v ∧ Q v H
def tFieldsA (K : PySem.W.Frag) (mg : Str → Option Value) (Fl : Str → List (Str × V) → List V → Prop) (i : Nat) (a : Addr) (cls : Value) (d : Option Addr) : TE := fun σ H Q => σ[i]? = some (some (.ref a)) ∧ ∃ (C dd : Addr) (code : Str) (fs : List (Str × V)) (ws : List V), cls = .ref C ∧ d = some dd ∧ IsExc K mg code fs (.ref C) (some dd) H ∧ Fl code fs ws ∧ ws.length ≤ 1000 ∧ ∀ r H', Same H H' → H r = none → H' r = some (.tup ws) → Q (.ref r) H'
section
variable {X : Cx} {a : Addr} {oe : Obj} {cls : Value} {d : Option Addr} {e : Expr} {n : Str} {i : Nat} {pos q : Pos}
/-- in the clause's suite: the caught error's field -/
theorem pe_pinA (hp : (a, oe) ∈ X.pn) (hz : Zc cls d oe) (hf : ∃ vs, oe.data = .fields vs) (he : PE X e (tVar i)) (hb : attributeBase e n X.env (eval e X.env) = eval e X.env := by rfl) :
    PE X (.Attribute e n pos) (tPinA X.K i a cls d n) := by
  constructor
  rintro pins s σ H Q I ⟨h0, C, dd, fs, v, rfl, rfl, T, nf, ed, l, hq⟩
  exact (pe_pinf hp he hb).run pins s σ H Q I ⟨_, h0, rfl, C, dd, fs, v, ⟨hz, hf⟩, T, nf, ed, l, hq⟩
/-- .. its fields, told by a def -/
theorem pe_fieldsA {Fl : Str → List (Str × V) → List V → Prop} {k : Nat} {f : Addr} {fd : FuncData} {ps : List Str} {x : Str} (hp : (a, oe) ∈ X.pn) (hz : Zc cls d oe) (hf : ∃ vs, oe.data = .fields vs) (F : FnQ X.prog X.w X.K X.mg X.base k f fd ps (spFields X.K X.mg Fl)) (hr : L2H.RoomH k X.A) (hg : Gl X x) (hm : X.mg x = some (.ref f)) (hk : PySem.W.keepIn X.K (.ref f) = true) (hb : Binds X.K fd ps [])
    (he : PA X [e] (tCons (tVar i) tNil)) (hdb : (x == ("__debug__" : Str)) = false := by decide) (hs : starEach [e] X.env = (false, eval e X.env) :: starEach [] X.env := by rfl) (hpl : (backTo pos (starEach [] X.env)).any (·.1) = false := by rfl) :
    PE X (.Call (.Name x q) [e] [] pos) (tFieldsA X.K X.mg Fl i a cls d) := by
  constructor
  rintro pins s σ H Q I ⟨h0, C, dd, code, fs, ws, rfl, rfl, E, fl, lw, hq⟩
  exact (pe_callQ (p := (a, oe)) hp F hr hg hm hk hb he hdb hs hpl).run pins s σ H Q I ⟨_, h0, C, dd, code, fs, ws, rfl, ⟨hz, hf⟩, E, fl, lw, hq⟩
end
end Th
namespace Th
open PySem PySem.Spec PyProof.Rows L2
/-- a def whose code object is known -/
theorem okC {P : Program} {w : World} {K : PySem.W.Frag} {mg : Str → Option Value} {base : Heap} {x qual : Str} {st : Stmt} {f c : Addr} {fd : FuncData} {N ps : List Str} {k : Nat} {sp : Sp} (F : Fun K x qual st f fd) (hc : fd.code = .ref c) (S : FnScope N ps (defScope st)) (len : ∀ vs H Q E, sp vs H Q E → vs.length = ps.length)
    (hbody : ∀ (A : Around) (outer : List Env) (s : Shared) (H : Hp) (vs : List V) (Q : VK) (E : XK), Room k (A.deeper (envOfC qual (defScope st) s.heap.objs.size f (.ref c))) → sp vs H Q E →
      ∃ t, PSs (cxOf CX0 P w K mg base N qual (defScope st) f (.ref c) A outer s H E).nox (defBody st) t ∧ t { nx := fun _ H' => Q .non H', rt := Q } (L2.start N vs) H) : FnOk P w K mg base CX0 (k + 1) f fd ps sp := by
  obtain ⟨oc, od, kV, doc, pm, an, cdv, ct, osl, rfl, lk, hcd⟩ := F.ex
  obtain rfl : cdv = .ref c := hc
  refine fn_of lk hcd S len fun A outer s H vs Q E hr hsp => ?_
  obtain ⟨t, h, q⟩ := hbody A outer s H vs Q E hr hsp
  exact ⟨t, h.nox, q⟩
/-- f(lambda: body), f the def that tries -/
theorem pe_try {X : Cx} {x a : Str} {st : Stmt} {g c P : Addr} {fdg : FuncData} {k : Nat} {Ng : List Str} {TT : (XK → Hp → VK → Prop) → Hp → VK → Prop} {params : Arguments} {body : Expr} {scope : Scope} {t : XK → TE} {p lpos pos : Pos} (Fg : Fun X.K x x st g fdg) (hm : X.mg x = some (.ref g)) (hb : Binds X.K fdg [a] []) (hg : Gl X x)
    (Sg : FnScope Ng [a] (defScope st)) (hNg : Ng[0]? = some a) (hva : Vis (defScope st) a) (hG : ∀ (cdg : Value), LamX.GivesTo X Ng x (defScope st) g cdg (defBody st) a (X.env.qual ++ "<lambda>") TT)
    (TB : LamX.TabB X.base X.mg c P) (hcode : X.env.code = .ref c) (hr : Room (k + 2) X.A) (L : LamX.LamS X.env.scope scope) (hdef : defaultsOf params X.env = ([], []))
    (hbind : ∀ (q : Str) (cl : List (Str × Addr)) (pm cv ctv : Value), bindArgs (PySem.W.kla_fn "<lambda>" q params body scope cl pm cv ctv) ⟨[], []⟩ = pure [])
    (hbody : ∀ (A : Around) (outer : List Env) (s : Shared) (H : Hp) (E : XK) (f c' : Addr), Room k (A.deeper (LamX.lamEnv X scope s.heap.objs.size f c')) → PE (LamX.lamCx X A outer s H E scope f c') body (t E))
    (hdb : (x == ("__debug__" : Str)) = false := by decide) (hd : (a == ("__debug__" : Str)) = false := by decide) (hcd : (a == ("__classdict__" : Str)) = false := by decide) :
    PE X (.Call (.Name x p) [.Lambda params body scope lpos] [] pos) (LamX.tLam [(P, X.env.qual ++ "<lambda>")] TT t) := by
  obtain ⟨oc, od, kV, doc, pm, an, cdv, ct, osl, rfl, lk, hco⟩ := Fg.ex
  exact LamX.pe_lamcall (T := [(P, X.env.qual ++ "<lambda>")]) hg hm Fg.kp lk hco hb Sg hNg hva (hG _) TB hcode (List.mem_singleton.mpr rfl) (fun p hp _ => by rw [List.mem_singleton.mp hp]) hr L hdef hbind hbody hdb hd hcd
end Th
/-! x in a tuple, x any datum -/
namespace L2
open PySem PySem.Spec PyProof.Rows
theorem hu65 {A : Around} {k : Nat} (hr : Room k A) : A.units + 65 < cLine := by
  have := hr.un
  omega
def rInT (K : PySem.W.Frag) (neg : Bool) : R2 := fun x y H Q => ∃ d ds, Dp K H x d ∧ Dp K H y (.tuple ds) ∧ SeqAt.shaped d = true ∧ SeqAt.shaped (.tuple ds) = true ∧ Q (.bl (if neg then !ds.any fun z => PyData.eqv z d else ds.any fun z => PyData.eqv z d)) H
section
variable {X : Cx}
theorem op_inT (hu : X.A.units + 65 < cLine) : OpR X (compareOp .In) (rInT X.K false) := by
  intro pins s σ H x y v u Q I rx ry h
  obtain ⟨d, ds, hd, he, sd, se, q⟩ := h
  obtain ⟨as, r1⟩ := Dp.reads I d x v hd rx
  obtain ⟨bs, r2⟩ := Dp.reads I (.tuple ds) y u he ry
  exact SeqAt.in_tuple_reads r2 r1 (SeqAt.canLay_of_shaped se) (SeqAt.canLay_of_shaped sd) (room_in_shaped sd hu) ⟨.bl _, H, I, rfl, q⟩
theorem op_notInT (hu : X.A.units + 65 < cLine) : OpR X (compareOp .NotIn) (rInT X.K true) := by
  intro pins s σ H x y v u Q I rx ry h
  obtain ⟨d, ds, hd, he, sd, se, q⟩ := h
  obtain ⟨as, r1⟩ := Dp.reads I d x v hd rx
  obtain ⟨bs, r2⟩ := Dp.reads I (.tuple ds) y u he ry
  exact SeqAt.notIn_tuple_reads r2 r1 (SeqAt.canLay_of_shaped se) (SeqAt.canLay_of_shaped sd) (room_in_shaped sd hu) ⟨.bl _, H, I, rfl, q⟩
end
end L2
namespace Th
open PySem PySem.Spec PyProof.Rows L2
/-- a datum is one of these texts -/
def inNm (d : PyData) (xs : List Str) : Bool := match d with
  | .str x => decide (x ∈ xs)
  | _ => false
theorem any_nm (d : PyData) (nd : tyD d ≠ "dict") : ∀ xs : List Str, ((xs.map PyData.str).any fun z => PyData.eqv z d) = inNm d xs
  | [] => by cases d <;> rfl
  | x :: r => by
    rw [List.map_cons, List.any_cons, any_nm d nd r]
    cases d with
    | dict kvs => exact absurd rfl nd
    | str y =>
      have e : PyData.eqv (.str x) (.str y) = decide (x = y) := by
        have e2 : (x == y) = decide (x = y) := by rw [Bool.eq_iff_iff, beq_iff_eq, decide_eq_true_eq]
        rw [← e2]
        simp [PyData.eqv]
      rw [e]
      show (decide (x = y) || decide (y ∈ r)) = decide (y ∈ x :: r)
      by_cases h : x = y
      · simp [h]
      · have h' : ¬ y = x := fun z => h z.symm
        simp [h, h']
    | none => simp [PyData.eqv, inNm]
    | bool b => simp [PyData.eqv, inNm]
    | int b => simp [PyData.eqv, inNm]
    | list b => simp [PyData.eqv, inNm]
    | tuple b => simp [PyData.eqv, inNm]
end Th
/-! for i, x in enumerate(t), t a tuple -/
namespace PySem
namespace XG
open Sem (wp)
abbrev enumO (it : Addr) : Obj := { cls := .type "enumerate", data := .fields #[.none, .bool false, .ref it, rawInt 0, .none, .none] }
theorem meets_enum1 {v : Value} {o : Obj} {H : Heap → Prop} (B : Begins v o H) :
    Meets (Builtin.«enumerate.__new__» ⟨[.type "enumerate", v], []⟩) (fun _ R s => H s.heap ∧ R (.ok (.ret (.ref (s.heap.push o).objs.size))) { s with heap := (s.heap.push o).push (enumO s.heap.objs.size) }) :=
  .of_wp fun prog w A R s hh => by
    obtain ⟨hp, g, d, tk, os⟩ := s
    obtain ⟨h0, hr⟩ := hh
    have hsub := sub_enumerate
    have starts : ∀ {A' : Around} {E : Value → Shared → Prop} {Q : Value → Shared → Prop}, Q (.ref hp.objs.size) ⟨hp.push o, g, d, tk, os⟩ → wpAny (model prog w) A' (pyIter v) Q E ⟨hp, g, d, tk, os⟩ := fun q => B.iter prog w _ _ ⟨hp, g, d, tk, os⟩ _ h0 q
    wp_walk using starts
    refine wpAny_stack_any fun st => wpAny_pure ?_
    split
    case h_1 c _ _ _ _ _ =>
      cases (c == Value.type "enumerate") <;> (wp_walk using starts; exact ⟨_, rfl, hr⟩)
    case h_2 =>
      wp_walk using starts
      exact ⟨_, rfl, hr⟩
theorem call_enum1 {prog : Program} {w : World} {A : Around} {E : Value → Shared → Prop} {s : Shared} {v : Value} {o : Obj} {H : Heap → Prop} {Q : Value → Shared → Prop} (B : Begins v o H) (h0 : H s.heap)
    (h : ∀ h', IsEnum h' (s.heap.objs.size + 1) s.heap.objs.size 0 .none → h'.get? s.heap.objs.size = some o → (∀ b u, s.heap.get? b = some u → h'.get? b = some u) → Q (.ref (s.heap.objs.size + 1)) { s with heap := h' }) :
    wpAny (model prog w) A (call (.type "enumerate") [v]) Q E s := by
  refine callType_new F.called_enumerate (by decide) (F.typeCall_enumerate_1 _) (F.newCall_enumerate_1 _) (fun obj => F.args_object_init_2 obj _) F.entry_enumerate_new (meets_enum1 B) ⟨h0, ?_⟩
  have size : (s.heap.push o).objs.size = s.heap.objs.size + 1 := Heap.size_push ..
  have en : ((s.heap.push o).push (enumO s.heap.objs.size)).get? (s.heap.objs.size + 1) = some (enumO s.heap.objs.size) := by
    rw [← size]
    exact Heap.get?_push_size (s.heap.push o) (o := enumO s.heap.objs.size) rfl
  show _ ∧ _
  rw [size]
  exact ⟨⟨_, en, rfl⟩, h _ en (Heap.get?_push_of_some _ (Heap.get?_push_size _ B.free)) fun b u q => Heap.get?_push_of_some _ (Heap.get?_push_of_some _ q)⟩
end XG
end PySem
namespace L2
open PySem PySem.Spec PyProof.Rows
/-- the tuple at a, each item in a new pair with its place -/
def IteT (K : PySem.W.Frag) (a : Addr) : It :=
  ⟨fun i H => ∃ (xs : List V) (x : V), SqT K H a xs ∧ xs[i]? = some x, fun i H v H' => ∃ T x, v = .ref T ∧ H T = none ∧ H' = upd H T (.tup [.int (i : Nat), x]) ∧ ∀ xs, SqT K H a xs → xs[i]? = some x, fun i H => ∃ xs : List V, SqT K H a xs ∧ xs.length = i⟩
theorem turn_enumT {P : Program} {w : World} {K : PySem.W.Frag} {elts : List Expr} {kk : Nat} {tpos : Pos} (a e it : Addr) :
    Turn P w K (.Tuple elts kk tpos) (IteT K a) [e, it] e (fun i h => (∃ old, IsEnum h e it ((i : Nat) : Int) old) ∧ h.IsTupleIter it a i ∧ e ≠ it) where
  mem := List.mem_cons_self
  obj := fun i h st b hb => by
    obtain ⟨⟨old, he⟩, ⟨o, ho, _, hd⟩, _⟩ := st
    rcases List.mem_cons.mp hb with z | z
    · rw [z]
      exact ⟨_, he, fun v q => nomatch q⟩
    · rw [List.mem_singleton.mp z]
      exact ⟨o, ho, fun v q => by rw [hd] at q; cases q⟩
  keep := fun i h h' st k => by
    obtain ⟨⟨old, he⟩, hi, ne⟩ := st
    exact ⟨⟨old, k e (by simp) _ he⟩, hi.at fun o q => k it (by simp) o q, ne⟩
  item := by
    rintro X rfl rfl rfl hc i pins s σ H E I hf ⟨⟨old, he⟩, hit, ne⟩ ⟨xs, x, hq, hx⟩
    obtain ⟨its, rv, p, hz⟩ := I.tuple hq
    obtain ⟨u, hu, ru⟩ := rv.get hx
    have le : e < s.heap.objs.size := Heap.lt_size he
    have li : it < s.heap.objs.size := let ⟨_, q, _⟩ := hit; Heap.lt_size q
    have hT : s.heap.IsTuple a its.toArray := p
    have ait : a ≠ it := fun z => by
      obtain ⟨o1, q1, c1, _⟩ := hit
      obtain ⟨o2, q2, c2, _⟩ := hT
      rw [z, q1] at q2
      cases q2
      have c3 : Value.type "tuple_iterator" = Value.type "tuple" := c1.symm.trans c2
      exact absurd c3 (by decide)
    have aE : e ∉ [it, a] := fun z => by
      rcases List.mem_cons.mp z with z | z
      · exact ne z
      · rw [List.mem_singleton.mp z] at he
        obtain ⟨o2, q2, c2, _⟩ := hT
        rw [he] at q2
        cases q2
        have c3 : Value.type "enumerate" = Value.type "tuple" := c2
        exact absurd c3 (by decide)
    refine wpAny_pyNext_enum_itemD (Draws.tuple (prog := X.prog) (w := X.w) (A := X.A.in1) (show X.A.in1.handled = none from I.ok.hd hc) it a ait its.toArray) he ⟨hit, hT⟩ (by have := (List.getElem?_eq_some_iff.mp hu).1; simpa using this) ne aE fun y h' tk hy ho hs2 hnew hsz hk => ?_
    have ey : y = u := by
      have z1 : its.toArray[i]? = some y := hy
      have z2 : its.toArray[i]? = some u := by simpa using hu
      rw [z1] at z2
      exact Option.some.inj z2
    subst ey
    refine ⟨_, rfl, wpAny_letOwnedTupleGo_enum (s := { s with heap := h', toks := tk + 1 }) ho fun h2 he2 sb => ?_⟩
    have stands : h2.get? s.heap.objs.size = some { cls := .type "tuple", data := .seq #[.int i tk, y] } := (sb.2 _ (Nat.ne_of_gt le)).trans hnew
    have new : ObjOk X.prog X.w (upd H s.heap.objs.size (.tup [.int (i : Nat), x])) h2 s.heap.objs.size (.tup [.int (i : Nat), x]) :=
      ⟨by show 2 ≤ sizeLine; decide, [.int i tk, y], .cons ⟨_, rfl⟩ (.cons ru .nil), ⟨_, stands, rfl, _, rfl⟩⟩
    have fresh : H s.heap.objs.size = none := I.hok.fresh (Nat.le_refl _)
    have I1 : Inv X pins σ (upd H s.heap.objs.size (.tup [.int (i : Nat), x])) { s with heap := h2, toks := tk + 1 } :=
      I.turnedNew (ch := [e, it]) (fun b ob hb q => (sb.2 b (fun z => hb (by simp [z]))).trans (hk b ob (fun z => hb (by simp [z])) (fun z => hb (by simp [z])) q)) hf (Nat.le_refl _) new
    refine ⟨.ref s.heap.objs.size, _, I1, rfl, ⟨_, x, rfl, fresh, rfl, fun ys hy2 => ?_⟩, ⟨⟨y, ?_⟩, ?_, ne⟩, fun b hb => ?_⟩
    · rw [I.tuple_inj hy2 hq]
      exact hx
    · rw [show ((i + 1 : Nat) : Int) = (i : Int) + 1 by omega]
      exact he2
    · exact hs2.1.at fun o q => (sb.2 it (Ne.symm ne)).trans q
    · have lb : b < s.heap.objs.size := by
        rcases List.mem_cons.mp hb with z | z
        · rw [z]; exact le
        · rw [List.mem_singleton.mp z]; exact li
      rw [upd_ne (Nat.ne_of_lt lb)]
      exact (hf b hb).1
  done := by
    rintro X rfl rfl rfl hc i pins s σ H E I hf ⟨⟨old, he⟩, hit, ne⟩ ⟨xs, hq, hx⟩
    obtain ⟨its, rv, p, hz⟩ := I.tuple hq
    have hT : s.heap.IsTuple a its.toArray := p
    have hl : i = its.toArray.size := by rw [← hx, rv.length, List.size_toArray]
    obtain ⟨f0, f1, f2, f3, f4, f5⟩ := hf it (by simp)
    have ait : a ≠ it := fun z => by
      obtain ⟨o1, q1, c1, _⟩ := hit
      obtain ⟨o2, q2, c2, _⟩ := hT
      rw [z, q1] at q2
      cases q2
      have c3 : Value.type "tuple_iterator" = Value.type "tuple" := c1.symm.trans c2
      exact absurd c3 (by decide)
    rw [hl] at he hit
    exact wpAny_pyNext_enum_endD (Draws.tuple (prog := X.prog) (w := X.w) (A := X.A.in1) (show X.A.in1.handled = none from I.ok.hd hc) it a ait its.toArray) he ⟨hit, hT⟩ fun h' eb => ⟨rfl, I.turned (t' := s.toks) (fun b o hb q => eb b o hb q) f0 f1 f3 f4 f5⟩
  self := fun A i s Q E st h => let ⟨⟨_, he⟩, _⟩ := st; wpAny_pyIter_enum he h
def iEnumT (K : PySem.W.Frag) (ta : TA) : TI := fun σ H R => ta σ H fun vs H1 => ∃ a xs, vs = [.ref a] ∧ ((SqL K H1 a xs ∧ R (Ite K a) H1) ∨ (SqT K H1 a xs ∧ R (IteT K a) H1))
/-- enumerate of a list or a tuple -/
theorem pi_enumLT {X : Cx} {e : Expr} {ta : TA} {p pos tpos : Pos} {elts : List Expr} {kk : Nat} (hg : Gl X "enumerate") (hm : X.mg "enumerate" = none) (ha : PA X [e] ta) (hs : starEach [e] X.env = [(false, eval e X.env)] := by rfl) :
    PI X (.Tuple elts kk tpos) (.Call (.Name "enumerate" p) [e] [] pos) (iEnumT X.K ta) := by
  constructor
  intro pins s σ H R I h
  refine Call_ (ld_blt I hg hm boot_enumerate (PyProof.Rows.callWith_type1 (thn (ha.run pos pins s σ H _ I h) fun us s1 hu => ?_) hs rfl))
  obtain ⟨vs, H1, I1, r1, a, xs, ex, q⟩ := hu
  subst ex
  rw [Vals.ref1 r1]
  have new : ∀ b ∈ [s1.heap.objs.size + 1, s1.heap.objs.size], s1.heap.objs.size ≤ b := fun b hb => by
    rcases List.mem_cons.mp hb with z | z
    · rw [z]; exact Nat.le_add_right _ _
    · rw [List.mem_singleton.mp z]; exact Nat.le_refl _
  rcases q with ⟨hq, q⟩ | ⟨hq, q⟩
  · obtain ⟨its, rv, p', hz⟩ := I1.list hq
    refine call_enumerate_list p'.isList fun h' he hit hsz hk => wpAny_pyIter_enum he ?_
    exact ⟨s1.heap.objs.size + 1, [s1.heap.objs.size + 1, s1.heap.objs.size], _, _, H1, rfl, I1.kept (t' := s1.toks) hk, turn_enum a (s1.heap.objs.size + 1) s1.heap.objs.size, ⟨⟨.none, he⟩, hit, Nat.succ_ne_self _⟩, fun b hb => I1.fpOk (new b hb) (I1.hok.fresh (new b hb)), q⟩
  · obtain ⟨its, rv, p', hz⟩ := I1.tuple hq
    have hT : s1.heap.IsTuple a its.toArray := p'
    refine PySem.XG.call_enum1 (begins_tuple a its.toArray) hT fun h' he hit hk => wpAny_pyIter_enum he ?_
    exact ⟨s1.heap.objs.size + 1, [s1.heap.objs.size + 1, s1.heap.objs.size], _, _, H1, rfl, I1.kept (t' := s1.toks) hk, turn_enumT a (s1.heap.objs.size + 1) s1.heap.objs.size, ⟨⟨.none, he⟩, ⟨_, hit, rfl, rfl⟩, Nat.succ_ne_self _⟩, fun b hb => I1.fpOk (new b hb) (I1.hok.fresh (new b hb)), q⟩
end L2
namespace L2
open PySem PySem.Spec PyProof.Rows
theorem walk_enumT {K : PySem.W.Frag} {a : Addr} {xs : List V} : Walk (IteT K a) xs.length (fun H => SqT K H a xs) (YPair (fun i => some (.int (i : Nat))) (fun i => xs[i]?)) where
  goes := fun i H hi h => ⟨xs, xs[i], h, List.getElem?_eq_getElem hi⟩
  stops := fun H h => ⟨xs, h, rfl⟩
  yields := fun i H v H' hi h y => by
    obtain ⟨T, x, e1, e2, e3, e4⟩ := y
    exact ⟨T, _, x, e1, e2, e3, rfl, e4 xs h⟩
end L2
/-! a walk over a list or a tuple; the first place -/
namespace Th
open PySem PySem.Spec PyProof.Rows L2
def iLT (K : PySem.W.Frag) (tl : TE) : TI := fun σ H R => tl σ H fun x H1 => ∃ a xs, x = .ref a ∧ ((SqL K H1 a xs ∧ R (Itl K a) H1) ∨ (SqT K H1 a xs ∧ R (Itt K a) H1))
theorem pi_LT {X : Cx} {tg l : Expr} {tl : TE} (hl : PE X l tl) : PI X tg l (iLT X.K tl) := by
  constructor
  intro pins s σ H R I h
  refine thn (hl.run pins s σ H _ I h) ?_
  rintro v s1 ⟨x, H1, J, r1, a, xs, rfl, q⟩
  obtain rfl : v = Value.ref a := r1
  have fp : ∀ b ∈ [s1.heap.objs.size], s1.heap.objs.size ≤ b := fun b hb => by rw [List.mem_singleton.mp hb]; exact Nat.le_refl _
  rcases q with ⟨hq, q⟩ | ⟨hq, q⟩
  · obtain ⟨its, rv, p, hz⟩ := J.list hq
    refine wpAny_pyIter_list p.isList ?_
    exact ⟨s1.heap.objs.size, [s1.heap.objs.size], _, _, H1, rfl, J.kept (t' := s1.toks) fun b o e => Heap.get?_push_of_some _ e, turn_list a _, ⟨_, Heap.get?_push_size _ rfl, rfl, rfl⟩, fun b hb => J.fpOk (fp b hb) (J.hok.fresh (fp b hb)), q⟩
  · obtain ⟨its, rv, p, hz⟩ := J.tuple hq
    refine wpAny_pyIter_tuple (show s1.heap.IsTuple a its.toArray from p) ?_
    exact ⟨s1.heap.objs.size, [s1.heap.objs.size], _, _, H1, rfl, J.kept (t' := s1.toks) fun b o e => Heap.get?_push_of_some _ e, turn_tuple a _, ⟨_, Heap.get?_push_size _ rfl, rfl, rfl⟩, fun b hb => J.fpOk (fp b hb) (J.hok.fresh (fp b hb)), q⟩
/-- the first place where p holds -/
def firstIx (p : Nat → Bool) (n : Nat) : Option Nat := (List.range n).find? p
theorem firstIx_some {p : Nat → Bool} {n k : Nat} (hk : k < n) (h : p k = true) (a : ∀ j, j < k → p j = false) : firstIx p n = some k := by
  unfold firstIx
  rw [List.find?_range_eq_some]
  exact ⟨h, List.mem_range.mpr hk, fun j hj => by rw [a j hj]; rfl⟩
theorem firstIx_none {p : Nat → Bool} {n : Nat} (a : ∀ j, j < n → p j = false) : firstIx p n = none := by
  unfold firstIx
  rw [List.find?_eq_none]
  intro j hj
  rw [a j (List.mem_range.mp hj)]
  exact Bool.false_ne_true
/-- a text of a list that stands ahead, too: the first such -/
def dupAt (xs : List Str) : Option Str := (firstIx (fun k => decide (xs.getD k Str.empty ∈ xs.take k)) xs.length).map fun k => xs.getD k Str.empty
theorem getD_of {xs : List Str} {k : Nat} {x : Str} (h : xs[k]? = some x) : xs.getD k Str.empty = x := by
  rw [List.getD_eq_getElem?_getD, h]
  rfl
theorem dupAt_some {xs : List Str} {k : Nat} {x : Str} (h : xs[k]? = some x) (m : x ∈ xs.take k) (a : ∀ j y, j < k → xs[j]? = some y → y ∉ xs.take j) : dupAt xs = some x := by
  unfold dupAt
  rw [firstIx_some (lt_of_get h) (decide_eq_true (by rw [getD_of h]; exact m)) fun j hj => ?_]
  · exact congrArg some (getD_of h)
  · obtain ⟨y, hy⟩ : ∃ y, xs[j]? = some y := ⟨_, List.getElem?_eq_getElem (Nat.lt_trans hj (lt_of_get h))⟩
    rw [getD_of hy]
    exact decide_eq_false (a j y hj hy)
theorem dupAt_none {xs : List Str} (a : ∀ j y, xs[j]? = some y → y ∉ xs.take j) : dupAt xs = none := by
  unfold dupAt
  rw [firstIx_none fun j hj => ?_]
  · rfl
  · obtain ⟨y, hy⟩ : ∃ y, xs[j]? = some y := ⟨_, List.getElem?_eq_getElem hj⟩
    rw [getD_of hy]
    exact decide_eq_false (a j y hy)
end Th
/-! own classes: what a def may use of them -/
namespace Th
open PySem PySem.Spec PyProof.Rows L2
/-- a class of the program: its name, its fields -/
structure ClsF (K : PySem.W.Frag) (mg : Str → Option Value) (C : Addr) (x : Str) (flds : List Str) : Prop where
  m : mg x = some (.ref C)
  cl : Cls K C
  na : ∀ f ∈ flds, NoAttr K C f
/-- its __init__, with what stands for the parameters that are not given -/
def HasI (P : Program) (w : World) (K : PySem.W.Frag) (mg : Str → Option Value) (base : Heap) (C : Addr) (k : Nat) (ps : List Str) (D : List V → Prop) (sp : Sp) : Prop :=
  ∃ (fI : Addr) (fd : FuncData) (ds : List Value) (dvs : List V), Mk K C fI ∧ FnOk P w K mg base (L2.CX P w) k fI fd ps sp ∧ Binds K fd ps ds ∧ Vals dvs ds ∧ D dvs
/-- a method -/
def HasM (P : Program) (w : World) (K : PySem.W.Frag) (mg : Str → Option Value) (base : Heap) (C : Addr) (m : Str) (k : Nat) (ps : List Str) (sp : Sp) : Prop :=
  ∃ (f : Addr) (fd : FuncData), Meth K C m f ∧ FnOk P w K mg base (L2.CX P w) k f fd ps sp ∧ Binds K fd ps []
/-- one default: an empty tuple -/
def dEmpty (K : PySem.W.Frag) (dvs : List V) : Prop := ∃ t : Addr, dvs = [.ref t] ∧ ∀ H : Hp, SqT K H t [] ∧ TyX K H (.ref t) (.type "tuple")
/-- a def that is never called -/
def spNo : Sp := fun _ _ _ _ => False
theorem no_ok {P : Program} {w : World} {K : PySem.W.Frag} {mg : Str → Option Value} {base : Heap} {CX : CXT} {k : Nat} {f : Addr} {fd : FuncData} {ps : List Str} : FnOk P w K mg base CX k f fd ps spNo :=
  ⟨fun _ _ _ _ h => h.elim, fun _ _ _ _ _ _ _ _ _ _ _ _ _ hs => hs.elim⟩
end Th
namespace Th
open PySem PySem.Spec PyProof.Rows L2
def topS (i : Nat) : Stmt := PySem.Challenge.pw_threeorders_k05_whole_facts_checked.main.body.getD i (.Pass ⟨0, 0, 0, 0⟩)
end Th
namespace Th
open PySem PySem.Spec PyProof.Rows L2
abbrev s_l_start : Stmt := topS 80
theorem sc_l_start : FnScope ["_law_script", "_law_own", "_law_mixed", "_law_cell"] ["_law_script", "_law_own"] (defScope s_l_start) := ⟨rfl, rfl, rfl, by decide +kernel, rfl, by decide +kernel, by decide +kernel⟩
/-- the list that draws is made -/
def spStart (K : PySem.W.Frag) : Sp := fun vs H Q _ => ∃ (a : Addr) (ns : List Int) (own : Int), vs = [.ref a, .int own] ∧ SqL K H a (ns.map V.int) ∧ ns.length ≤ 63 ∧ 0 ≤ own ∧ own < 2147483563 ∧
  ∀ H' (D : DS), Same H H' → H D.p = none → H D.l = none → Drw D H' → Q (.ref D.p) H'
section
variable {P : Program} {w : World} {K : PySem.W.Frag} {mg : Str → Option Value} {base : Heap} {CB : Addr}
theorem has_l_start (Z : Zs mg) (A : At K mg "_law_start" s_l_start ["_law_script", "_law_own"]) : Has P w K mg base "_law_start" s_l_start 1 ["_law_script", "_law_own"] (spStart K) := by
  obtain ⟨f, fd, F, mg1, bd⟩ := A
  refine ⟨f, fd, ?_, mg1, F.kp, bd, F⟩
  refine F.ok sc_l_start (fun vs H Q E h => ?_) (fun cdv A outer s H vs Q E hr h => ?_)
  · obtain ⟨a, ns, own, rfl, _⟩ := h
    rfl
  · obtain ⟨a, ns, own, rfl, hS, hlen, ho0, ho1, q⟩ := h
    refine ⟨_, (pss_cons (ps_set (i := 2) sc_l_start.nd rfl (Or.inl rfl) (pv 1)) (pss_cons (ps_for PassesOwn.never rfl (pi_list (pe_slice sl_list (pv 0) po_none (po_some pe_int))) (pg_name (i := 3) sc_l_start.nd rfl (Or.inl rfl)) (pss_one (ps_set (i := 2) sc_l_start.nd rfl (Or.inl rfl) (pe_op op_mod (pe_callTy call_int1 (by rfl) Z.int_ (by decide +kernel) (pa_cons (pe_op op_add (pe_op op_add (pe_op op_mul (pv 2) pe_int) (pe_op op_mod (pe_callTy call_int1 (by rfl) Z.int_ (by decide +kernel) (pa_cons (pv 3) pa_nil)) pe_int)) pe_int) pa_nil)) pe_int)))) (pss_one (ps_ret (pe_lst (pa_cons (pe_lc (own := [("_law_cell", 3)]) (g := gName 3) (by rfl) sc_l_start.nd (pi_list (pe_slice sl_list (pv 0) po_none (po_some pe_int))) (blkOk_by (own := [("_law_cell", 3)]) (N := ["_law_script", "_law_own", "_law_mixed", "_law_cell"]) (sc := defScope s_l_start) (by decide +kernel)) (fun _ _ _ _ _ => pg_name (i := 3) sc_l_start.nd rfl (Or.inl rfl)) (fun _ _ _ _ _ => pts_nil) (fun _ _ _ _ _ => (pe_callTy call_int1 (by rfl) Z.int_ (by decide +kernel) (pa_cons (pv 3) pa_nil)))) (pa_cons pe_int (pa_cons pe_int (pa_cons (pv 2) (pa_cons pe_int pa_nil)))))))))), ?_⟩
    have hl : (ns.map V.int).length ≤ 63 := by rw [List.length_map]; exact hlen
    -- the first number, then a turn for each cell
    refine ⟨_, rfl, _, rfl, 63, rfl, a, ns.map V.int, rfl, hS, fun c nc => ?_⟩
    rw [cut_none _ hl]
    have s1 : Same H (upd H c (.lst (ns.map V.int))) := same_new nc
    refine ⟨c, rfl, ⟨ns.map V.int, .inl (.inl upd_same)⟩, for_list (K := K) (a := c) (xs := ns.map V.int) (fun i σ H2 => ∃ (m : Int) (y : Option V), σ = [some (.ref a), some (.int own), some (.int m), y] ∧ Same H H2 ∧ H2 c = some (.lst (ns.map V.int)) ∧ 0 ≤ m ∧ m < 2147483563)
      ⟨own, none, rfl, s1, upd_same, ho0, ho1⟩ (fun i σ H2 _ ⟨_, _, _, _, e, _⟩ => .inl (.inl e)) ?_ ?_⟩
    · rintro i y σ H2 hi ⟨m, y', rfl, s2, e2, m0, m1⟩
      obtain ⟨z, _, rfl⟩ := getmap hi
      refine ⟨_, rfl, _, _, rfl, rfl, .inl ⟨by omega, by omega⟩, _, rfl, .inl ⟨_, rfl, _, _, rfl, rfl, (by show (0 : Int) < 2147483549; decide), _, _, rfl, rfl, _, _, rfl, rfl, .inl ⟨_, rfl, _, _, rfl, rfl, (by show (0 : Int) < 2147483563; decide), ?_⟩⟩⟩
      exact ⟨_, _, rfl, s2, e2, Int.emod_nonneg _ (by decide), Int.emod_lt_of_pos _ (by decide)⟩
    · rintro σ H2 ⟨m, y', rfl, s2, e2, m0, m1⟩
      -- the list's copy, and the list that draws
      refine ⟨_, rfl, 63, rfl, a, ns.map V.int, rfl, s2.seq hS, fun c2 nc2 => ?_⟩
      rw [cut_none _ hl]
      have s3 : Same H (upd H2 c2 (.lst (ns.map V.int))) := s2.trans (same_new nc2)
      refine ⟨c2, rfl, ⟨_, .inl (.inl upd_same)⟩, fun l nl => ?_⟩
      have ncl : c2 ≠ l := fun e => by rw [← e, upd_same] at nl; cases nl
      refine lc_list (K := K) (a := c2) (xs := ns.map V.int) (fun i H3 => Same H H3 ∧ H3 c2 = some (.lst (ns.map V.int)) ∧ H3 l = some (.lst ((ns.take i).map V.int)))
        ⟨s3.trans (same_new nl), by rw [upd_ne ncl]; exact upd_same, upd_same⟩ (fun i H3 _ ⟨_, e, _⟩ => .inl (.inl e)) ?_ ?_
      · rintro i y H3 hi ⟨s4, e4, e5⟩
        obtain ⟨z, hz, rfl⟩ := getmap hi
        have hz' := lt_of_get hz
        refine ⟨rfl, _, rfl, .inl ⟨_, rfl, _, e5, slineL (by rw [List.length_map, List.length_take]; omega), ?_⟩⟩
        refine ⟨same_mut s4 (s3.free nl), by rw [upd_ne ncl]; exact e4, ?_⟩
        rw [upd_same, take_succ_map hz]
      · rintro H3 ⟨s4, e4, e5⟩
        rw [List.length_map, List.take_length] at e5
        refine ⟨_, rfl, (by show 5 ≤ sizeLine; decide), fun p np => ?_⟩
        refine q _ ⟨p, l, ns⟩ (s4.trans (same_new np)) (s4.free np) (s3.free nl) ⟨ne_of_none e5 np, ?_, hlen, 0, 0, m, 0, upd_same, by decide, by decide, m0, by omega, by decide⟩
        rw [upd_ne (ne_of_none e5 np)]
        exact e5
end
end Th
namespace Th
open PySem PySem.Spec PyProof.Rows L2
abbrev s_l_draw : Stmt := topS 81
theorem sc_l_draw : FnScope ["_law_state", "_law_many", "_law_cell", "_law_digit", "_law_base"] ["_law_state", "_law_many"] (defScope s_l_draw) := ⟨rfl, rfl, rfl, by decide +kernel, rfl, by decide +kernel, by decide +kernel⟩
/-- a number below n is drawn -/
def spDraw : Sp := fun vs H Q _ => ∃ (D : DS) (n : Int), vs = [.ref D.p, .int n] ∧ Drw D H ∧ 0 < n ∧ n < 1073741824 ∧ ∀ (r : Int) H', 0 ≤ r → r < n → Go D H H' → Q (.int r) H'
/-- the list that draws holds other numbers -/
theorem Go.put {D : DS} {H : Hp} (ne : D.l ≠ D.p) (sc : H D.l = some (.lst (D.ns.map V.int))) (few : D.ns.length ≤ 63) {xs : List V} (st : H D.p = some (.lst xs)) {H' : Hp} {i v m c : Int} (e : H' = upd H D.p (.lst [.ref D.l, .int i, .int v, .int m, .int c]))
    (hi : 0 ≤ i) (hv : 0 ≤ v) (m0 : 0 ≤ m) (m1 : m < 2147483648) (hc : 0 ≤ c) : Go D H H' := by
  subst e
  refine ⟨fun a o h => ?_, ne, ?_, few, i, v, m, c, upd_same, hi, hv, m0, m1, hc⟩
  · obtain ⟨z, h⟩ := hid_some h
    rw [hid_ne z, upd_ne z]
    exact h
  · rw [upd_ne ne]
    exact sc
section
variable {P : Program} {w : World} {K : PySem.W.Frag} {mg : Str → Option Value} {base : Heap} {CB : Addr}
theorem has_l_draw (Z : Zs mg) (A : At K mg "_law_draw" s_l_draw ["_law_state", "_law_many"]) : Has P w K mg base "_law_draw" s_l_draw 1 ["_law_state", "_law_many"] (spDraw) := by
  obtain ⟨f, fd, F, mg1, bd⟩ := A
  refine ⟨f, fd, ?_, mg1, F.kp, bd, F⟩
  refine F.ok sc_l_draw (fun vs H Q E h => ?_) (fun cdv A outer s H vs Q E hr h => ?_)
  · obtain ⟨D, n, rfl, _⟩ := h
    rfl
  · obtain ⟨D, n, rfl, d, n0, n1, q⟩ := h
    obtain ⟨ne, sc, few, i, v, m, c, st, hi, hv, m0, m1, hc⟩ := id d
    refine ⟨_, (C8.pss_cut (ps_if (PW.pt (pw_and (pt_cmpR op_eq (pe_ix ix_list (pv 0) pe_int (fun _ _ => rfl)) pe_int (nomark _)) (pw_and1 (pt_cmpR op_lt (pe_ix ix_list (pv 0) pe_int (fun _ _ => rfl)) (pe_callB call_len_seq (by rfl) Z.len_ (by decide +kernel) (pa_cons (pe_ix ix_list (pv 0) pe_int (fun _ _ => rfl)) pa_nil)) (nomark _))))) (pss_cons (ps_set (i := 2) sc_l_draw.nd rfl (Or.inl rfl) (pe_ix ix_list (pe_ix ix_list (pv 0) pe_int (fun _ _ => rfl)) (pe_ix ix_list (pv 0) pe_int (fun _ _ => rfl)) (fun _ _ => rfl))) (pss_cons (ps_asg (pe_op op_add (pe_ix ix_list (pv 0) pe_int (fun _ _ => rfl)) pe_int) (pg_sub (pv 0) pe_int set_list)) (pss_one (ps_if (pt_cmpR op_ge (pe_callB call_abs (by rfl) Z.abs_ (by decide +kernel) (pa_cons (pv 2) pa_nil)) (pe_op op_pow pe_int pe_int) (nomark _)) (pss_one (ps_asg (pe_callB call_abs (by rfl) Z.abs_ (by decide +kernel) (pa_cons (pv 2) pa_nil)) (pg_sub (pv 0) pe_int set_list))) pss_nil)))) pss_nil) (pss_cons (ps_if (pt_cmpR op_gt (pe_ix ix_list (pv 0) pe_int (fun _ _ => rfl)) pe_int (nomark _)) (pss_cons (ps_set (i := 3) sc_l_draw.nd rfl (Or.inl rfl) (pe_op op_mod (pe_callTy call_int1 (by rfl) Z.int_ (by decide +kernel) (pa_cons (pe_ix ix_list (pv 0) pe_int (fun _ _ => rfl)) pa_nil)) (pv 1))) (pss_cons (ps_asg (pe_op op_fdiv (pe_callTy call_int1 (by rfl) Z.int_ (by decide +kernel) (pa_cons (pe_ix ix_list (pv 0) pe_int (fun _ _ => rfl)) pa_nil)) (pv 1)) (pg_sub (pv 0) pe_int set_list)) (pss_one (ps_ret (pv 3))))) pss_nil) (pss_cons (ps_asg (pe_op op_add (pe_ix ix_list (pv 0) pe_int (fun _ _ => rfl)) pe_int) (pg_sub (pv 0) pe_int set_list)) (pss_cons (ps_set (i := 4) sc_l_draw.nd rfl (Or.inl rfl) (pe_op op_mod (pe_callTy call_int1 (by rfl) Z.int_ (by decide +kernel) (pa_cons (pe_op op_add (pe_ix ix_list (pv 0) pe_int (fun _ _ => rfl)) (pe_op op_mul (pe_ix ix_list (pv 0) pe_int (fun _ _ => rfl)) pe_int)) pa_nil)) pe_int)) (pss_cons (ps_asg (pe_op op_mod (pe_callTy call_int1 (by rfl) Z.int_ (by decide +kernel) (pa_cons (pe_op op_add (pe_op op_add (pe_op op_pow (pv 4) pe_int) (pe_op op_mul pe_int (pv 4))) pe_int) pa_nil)) pe_int) (pg_sub (pv 0) pe_int set_list)) (pss_one (ps_ret (pe_op op_mod (pe_callTy call_int1 (by rfl) Z.int_ (by decide +kernel) (pa_cons (pe_op op_add (pe_op op_fdiv (pe_ix ix_list (pv 0) pe_int (fun _ _ => rfl)) pe_int) (pe_op op_mul (pe_op op_mod (pe_callTy call_int1 (by rfl) Z.int_ (by decide +kernel) (pa_cons (pe_ix ix_list (pv 0) pe_int (fun _ _ => rfl)) pa_nil)) pe_int) pe_int)) pa_nil)) (pv 1))))))))), ?_⟩
    have ix0 : ∀ i v m c : Int, atI [V.ref D.l, .int i, .int v, .int m, .int c] 0 = some (.ref D.l) := fun _ _ _ _ => rfl
    have ix1 : ∀ i v m c : Int, atI [V.ref D.l, .int i, .int v, .int m, .int c] 1 = some (.int i) := fun _ _ _ _ => rfl
    have ix2 : ∀ i v m c : Int, atI [V.ref D.l, .int i, .int v, .int m, .int c] 2 = some (.int v) := fun _ _ _ _ => rfl
    have ix3 : ∀ i v m c : Int, atI [V.ref D.l, .int i, .int v, .int m, .int c] 3 = some (.int m) := fun _ _ _ _ => rfl
    have ix4 : ∀ i v m c : Int, atI [V.ref D.l, .int i, .int v, .int m, .int c] 4 = some (.int c) := fun _ _ _ _ => rfl
    refine ⟨fun σ H1 => ∃ (i v : Int) (y : Option V), σ = [some (.ref D.p), some (.int n), y, none, none] ∧ H1 D.p = some (.lst [.ref D.l, .int i, .int v, .int m, .int c]) ∧ H1 D.l = some (.lst (D.ns.map V.int)) ∧ Go D H H1 ∧ 0 ≤ i ∧ 0 ≤ v, ?_, ?_⟩
    · -- a cell of the script is taken, or not
      have stay : ∃ (i v : Int) (y : Option V), [some (V.ref D.p), some (V.int n), none, none, none] = [some (.ref D.p), some (.int n), y, none, none] ∧ H D.p = some (.lst [.ref D.l, .int i, .int v, .int m, .int c]) ∧ H D.l = some (.lst (D.ns.map V.int)) ∧ Go D H H ∧ 0 ≤ i ∧ 0 ≤ v :=
        ⟨i, v, none, rfl, st, sc, .refl d, hi, hv⟩
      refine ⟨_, rfl, D.p, _, _, _, rfl, rfl, .inl (.inl st), ix2 _ _ _ _, rfl, _, rfl, ?_⟩
      refine ite2 (fun hv0 => ?_) (fun hv0 => iteF stay)
      refine ⟨_, rfl, D.p, _, _, _, rfl, rfl, .inl (.inl st), ix1 _ _ _ _, _, rfl, D.p, _, _, _, rfl, rfl, .inl (.inl st), ix0 _ _ _ _, D.l, _, rfl, .inl (.inl (.inl sc)), _, _, rfl, rfl, _, rfl, ?_⟩
      refine ite2 (fun hi1 => ?_) (fun hi1 => stay)
      have hi2 : i < D.ns.length := by
        have := of_decide_eq_true hi1
        rw [List.length_map] at this
        exact this
      obtain ⟨z, hz⟩ : ∃ z, D.ns[i.toNat]? = some z := ⟨_, List.getElem?_eq_getElem (by omega)⟩
      -- cell = state[0][state[1]]
      refine ⟨_, rfl, D.p, _, _, _, rfl, rfl, .inl (.inl st), ix0 _ _ _ _, _, rfl, D.p, _, _, _, rfl, rfl, .inl (.inl st), ix1 _ _ _ _, D.l, _, _, _, rfl, rfl, .inl (.inl sc), atI_of hi (by rw [List.getElem?_map, hz]; rfl), ?_⟩
      -- state[1] = state[1] + 1
      refine ⟨_, rfl, D.p, _, _, _, rfl, rfl, .inl (.inl st), ix1 _ _ _ _, _, _, rfl, rfl, _, rfl, D.p, _, _, 1, rfl, rfl, st, rfl, ?_⟩
      have g1 : Go D H (upd H D.p (.lst [V.ref D.l, .int (i + 1), .int v, .int m, .int c])) := Go.put ne sc few st rfl (by omega) hv m0 m1 hc
      have e1 : (upd H D.p (.lst [V.ref D.l, .int (i + 1), .int v, .int m, .int c])) D.l = some (.lst (D.ns.map V.int)) := by rw [upd_ne ne]; exact sc
      -- if abs(cell) is great
      refine ⟨_, rfl, _, rfl, _, _, rfl, rfl, ⟨by decide, by decide, by decide⟩, _, _, rfl, rfl, _, rfl, ?_⟩
      refine ite2 (fun hb => ?_) (fun hb => ?_)
      · refine ⟨_, rfl, _, rfl, _, rfl, D.p, _, _, 2, rfl, rfl, upd_same, rfl, ?_⟩
        rw [upd_upd]
        have hz0 : 0 ≤ (if z < 0 then -z else z) := by split <;> omega
        exact ⟨i + 1, _, _, rfl, upd_same, by rw [upd_ne ne]; exact sc, Go.put ne sc few st rfl (by omega) hz0 m0 m1 hc, by omega, hz0⟩
      · exact ⟨i + 1, v, _, rfl, upd_same, e1, g1, by omega, hv⟩
    · -- a digit of the great number, or a fresh one
      rintro σ H1 ⟨i, v, y, rfl, st, sc, g, hi, hv⟩
      refine ⟨_, rfl, D.p, _, _, _, rfl, rfl, .inl (.inl st), ix2 _ _ _ _, _, _, rfl, rfl, _, rfl, ?_⟩
      refine ite2 (fun hv0 => ?_) (fun hv0 => ?_)
      · refine ⟨_, rfl, D.p, _, _, _, rfl, rfl, .inl (.inl st), ix2 _ _ _ _, .inl ⟨_, rfl, _, rfl, _, _, rfl, rfl, n0, ?_⟩⟩
        refine ⟨_, rfl, D.p, _, _, _, rfl, rfl, .inl (.inl st), ix2 _ _ _ _, .inl ⟨_, rfl, _, rfl, _, _, rfl, rfl, ⟨n0, n1⟩, _, rfl, D.p, _, _, 2, rfl, rfl, st, rfl, ?_⟩⟩
        refine ⟨_, rfl, ?_⟩
        exact q _ _ (Int.emod_nonneg _ (by omega)) (Int.emod_lt_of_pos _ n0) (g.trans (Go.put ne sc few st rfl hi (Int.ediv_nonneg hv (by omega)) m0 m1 hc))
      · -- state[4] = state[4] + 1
        refine ⟨_, rfl, D.p, _, _, _, rfl, rfl, .inl (.inl st), ix4 _ _ _ _, _, _, rfl, rfl, _, rfl, D.p, _, _, 4, rfl, rfl, st, rfl, ?_⟩
        have st2 : (upd H1 D.p (.lst [V.ref D.l, .int i, .int v, .int m, .int (c + 1)])) D.p = some (.lst [V.ref D.l, .int i, .int v, .int m, .int (c + 1)]) := upd_same
        refine ⟨_, rfl, D.p, _, _, _, rfl, rfl, .inl (.inl st2), ix3 _ _ _ _, _, rfl, D.p, _, _, _, rfl, rfl, .inl (.inl st2), ix4 _ _ _ _, _, _, rfl, rfl, .inr ⟨by decide, by decide⟩, _, _, rfl, rfl, .inl ⟨_, rfl, _, _, rfl, rfl, (by show (0 : Int) < 2147483563; decide), ?_⟩⟩
        refine ⟨_, rfl, _, _, rfl, rfl, ⟨by decide, by decide, by omega⟩, _, rfl, _, _, rfl, rfl, .inl ⟨by decide, by decide⟩, _, _, rfl, rfl, _, _, rfl, rfl, .inl ⟨_, rfl, _, _, rfl, rfl, (by show (0 : Int) < 2147483563; decide), _, rfl, D.p, _, _, 3, rfl, rfl, st2, rfl, ?_⟩⟩
        rw [upd_upd]
        have st3 : ∀ r : Int, (upd H1 D.p (.lst [V.ref D.l, .int i, .int v, .int r, .int (c + 1)])) D.p = some (.lst [V.ref D.l, .int i, .int v, .int r, .int (c + 1)]) := fun r => upd_same
        refine ⟨_, rfl, D.p, _, _, _, rfl, rfl, .inl (.inl (st3 _)), ix3 _ _ _ _, _, _, rfl, rfl, ⟨by decide, by decide⟩, _, rfl, D.p, _, _, _, rfl, rfl, .inl (.inl (st3 _)), ix3 _ _ _ _, .inl ⟨_, rfl, _, _, rfl, rfl, (by show (0 : Int) < 6047; decide), _, _, rfl, rfl, .inr ⟨by decide, by decide⟩, _, _, rfl, rfl, .inl ⟨_, rfl, _, rfl, _, _, rfl, rfl, n0, ?_⟩⟩⟩
        exact q _ _ (Int.emod_nonneg _ (by omega)) (Int.emod_lt_of_pos _ n0) (g.trans (Go.put ne sc few st rfl hi hv (Int.emod_nonneg _ (by decide)) (Int.lt_trans (Int.emod_lt_of_pos (b := 2147483563) _ (by decide)) (by decide)) (by omega)))
end
end Th
namespace Th
open PySem PySem.Spec PyProof.Rows L2
abbrev s_l_pick : Stmt := topS 82
theorem sc_l_pick : FnScope ["_law_state", "_law_pool"] ["_law_state", "_law_pool"] (defScope s_l_pick) := ⟨rfl, rfl, rfl, by decide +kernel, rfl, by decide +kernel, by decide +kernel⟩
/-- one of the things of a list -/
def spPick (K : PySem.W.Frag) : Sp := fun vs H Q _ => ∃ (D : DS) (q : Addr) (xs : List V), vs = [.ref D.p, .ref q] ∧ Drw D H ∧ SqL K (hid D.p H) q xs ∧ 0 < xs.length ∧ xs.length ≤ 1000 ∧ ∀ (i : Nat) (v : V) H', xs[i]? = some v → Go D H H' → Q v H'
section
variable {P : Program} {w : World} {K : PySem.W.Frag} {mg : Str → Option Value} {base : Heap} {CB : Addr}
theorem has_l_pick (Z : Zs mg) (A : At K mg "_law_pick" s_l_pick ["_law_state", "_law_pool"]) (h_l_draw : Has P w K mg base "_law_draw" s_l_draw 1 ["_law_state", "_law_many"] (spDraw)) : Has P w K mg base "_law_pick" s_l_pick 2 ["_law_state", "_law_pool"] (spPick K) := by
  obtain ⟨f, fd, F, mg1, bd⟩ := A
  obtain ⟨f_l_draw, fd_l_draw, G_l_draw, m_l_draw, k_l_draw, b_l_draw, F_l_draw⟩ := h_l_draw
  refine ⟨f, fd, ?_, mg1, F.kp, bd, F⟩
  refine F.ok sc_l_pick (fun vs H Q E h => ?_) (fun cdv A outer s H vs Q E hr h => ?_)
  · obtain ⟨D, p, xs, rfl, _⟩ := h
    rfl
  · obtain ⟨D, p, xs, rfl, d, hS, h0, h1, q⟩ := h
    refine ⟨_, (pss_one (ps_ret (pe_ix ix_list (pv 1) (pe_call G_l_draw (hr.mono (by decide)) (by rfl) m_l_draw k_l_draw b_l_draw .nil pass0 (pa_cons (pv 0) (pa_cons (pe_callB call_len_seq (by rfl) Z.len_ (by decide +kernel) (pa_cons (pv 1) pa_nil)) pa_nil))) (fun _ _ => rfl)))), ?_⟩
    have hA : SqL K H p xs := hid_same.seq hS
    refine ⟨_, rfl, _, rfl, _, rfl, p, xs, rfl, .inl hA, D, _, rfl, d, by omega, by omega, fun r H' r0 r1 g => ?_⟩
    obtain ⟨v, hv⟩ : ∃ v, xs[r.toNat]? = some v := ⟨_, List.getElem?_eq_getElem (by omega)⟩
    exact ⟨p, xs, r, v, rfl, rfl, hid_same.seq (g.sm.seq hS), atI_of r0 hv, q _ v H' hv g⟩
end
end Th
namespace Th
open PySem PySem.Spec PyProof.Rows L2
abbrev s_l_letters : Stmt := topS 84
theorem sc_l_letters : FnScope [] [] (defScope s_l_letters) := ⟨rfl, rfl, rfl, by decide +kernel, rfl, by decide +kernel, by decide +kernel⟩
def spLetters : Sp := fun vs H Q _ => vs = [] ∧ Q (.str abc) H
section
variable {P : Program} {w : World} {K : PySem.W.Frag} {mg : Str → Option Value} {base : Heap} {CB : Addr}
theorem has_l_letters (Z : Zs mg) (A : At K mg "_law_letters" s_l_letters []) : Has P w K mg base "_law_letters" s_l_letters 1 [] (spLetters) := by
  obtain ⟨f, fd, F, mg1, bd⟩ := A
  refine ⟨f, fd, ?_, mg1, F.kp, bd, F⟩
  refine F.ok sc_l_letters (fun vs H Q E h => ?_) (fun cdv A outer s H vs Q E hr h => ?_)
  · obtain ⟨rfl, _⟩ := h
    rfl
  · obtain ⟨rfl, q⟩ := h
    exact ⟨_, (pss_one (ps_ret pe_str)), q⟩
end
end Th
namespace Th
open PySem PySem.Spec PyProof.Rows L2
abbrev s_l_word : Stmt := topS 85
theorem sc_l_word : FnScope ["_law_state", "_law_longest", "_law_k"] ["_law_state", "_law_longest"] (defScope s_l_word) := ⟨rfl, rfl, rfl, by decide +kernel, rfl, by decide +kernel, by decide +kernel⟩
/-- a text of 1 to n small letters -/
def spWord (K : PySem.W.Frag) : Sp := fun vs H Q _ => ∃ (D : DS) (n : Int), vs = [.ref D.p, .int n] ∧ Drw D H ∧ 0 < n ∧ n ≤ 1000 ∧ ∀ (x : Str) H', Lw x → 1 ≤ x.length → (x.length : Int) ≤ n → Go D H H' → Q (.str x) H'
theorem word_len : ∀ l : List Nat, ((l.map fun k => (⟨#[let_ k]⟩ : Str)).map cs).flatten = l.map let_
  | [] => rfl
  | k :: r => by
    rw [List.map_cons, List.map_cons, List.flatten_cons, word_len r]
    rfl
theorem word_sum : ∀ l : List Nat, ((l.map fun k => (⟨#[let_ k]⟩ : Str)).map (·.length)).sum = l.length
  | [] => rfl
  | k :: r => by
    rw [List.map_cons, List.map_cons, List.sum_cons, word_sum r, List.length_cons]
    show 1 + r.length = r.length + 1
    omega
section
variable {P : Program} {w : World} {K : PySem.W.Frag} {mg : Str → Option Value} {base : Heap} {CB : Addr}
theorem has_l_word (Z : Zs mg) (A : At K mg "_law_word" s_l_word ["_law_state", "_law_longest"]) (h_l_draw : Has P w K mg base "_law_draw" s_l_draw 1 ["_law_state", "_law_many"] (spDraw)) (h_l_letters : Has P w K mg base "_law_letters" s_l_letters 1 [] (spLetters)) : Has P w K mg base "_law_word" s_l_word 2 ["_law_state", "_law_longest"] (spWord K) := by
  obtain ⟨f, fd, F, mg1, bd⟩ := A
  obtain ⟨f_l_draw, fd_l_draw, G_l_draw, m_l_draw, k_l_draw, b_l_draw, F_l_draw⟩ := h_l_draw
  obtain ⟨f_l_letters, fd_l_letters, G_l_letters, m_l_letters, k_l_letters, b_l_letters, F_l_letters⟩ := h_l_letters
  refine ⟨f, fd, ?_, mg1, F.kp, bd, F⟩
  refine F.ok sc_l_word (fun vs H Q E h => ?_) (fun cdv A outer s H vs Q E hr h => ?_)
  · obtain ⟨D, n, rfl, _⟩ := h
    rfl
  · obtain ⟨D, n, rfl, d, n0, n1, q⟩ := h
    refine ⟨_, (pss_one (ps_ret (pe_join pe_str (pe_lc (own := [("_law_k", 2)]) (g := gName 2) (by rfl) sc_l_word.nd (pi_range1 (by rfl) Z.range_ (pa_cons (pe_op op_add pe_int (pe_call G_l_draw (hr.mono (by decide)) (by rfl) m_l_draw k_l_draw b_l_draw .nil pass0 (pa_cons (pv 0) (pa_cons (pv 1) pa_nil)))) pa_nil)) (blkOk_by (own := [("_law_k", 2)]) (N := ["_law_state", "_law_longest", "_law_k"]) (sc := defScope s_l_word) (by decide +kernel)) (fun _ _ _ _ _ => pg_name (i := 2) sc_l_word.nd rfl (Or.inl rfl)) (fun _ _ _ _ _ => pts_nil) (fun _ _ _ _ _ => (pe_ix ix_str (pe_call0 G_l_letters (hr.mono (by decide)) (by rfl) m_l_letters k_l_letters b_l_letters .nil pass0) (pe_call G_l_draw (hr.mono (by decide)) (by rfl) m_l_draw k_l_draw b_l_draw .nil pass0 (pa_cons (pv 0) (pa_cons pe_int pa_nil))) (fun _ _ => rfl))))))), ?_⟩
    refine ⟨⟨_, rfl⟩, _, rfl, _, rfl, D, n, rfl, d, n0, by omega, fun r H1 r0 r1 g => ⟨_, _, rfl, rfl, _, rfl, by omega, by omega, fun L nL => ?_⟩⟩
    have nLp := g.st.ne_new nL
    refine lc_range (lo := 0) (n := (1 + r).toNat) (fun i H2 => ∃ l : List Nat, l.length = i ∧ (∀ k ∈ l, k < 26) ∧ Go D H H2 ∧ H2 L = some (.lst ((l.map fun k => (⟨#[let_ k]⟩ : Str)).map V.str)))
      ⟨[], rfl, (fun _ z => nomatch z), g.new nL, upd_same⟩ ?_ ?_
    · rintro i H2 hi ⟨l, hl, hk, g2, e2⟩
      refine ⟨rfl, rfl, _, rfl, D, 26, rfl, g2.st, by decide, by decide, fun k H3 k0 k1 g3 => ⟨abc, k, let_ k.toNat, rfl, rfl, sline_abc, atI_let k0 k1, _, g3.old nLp e2, slineL (by rw [List.length_map, List.length_map]; omega), ?_⟩⟩
      refine ⟨l ++ [k.toNat], by rw [List.length_append, hl]; rfl, fun z hz => ?_, (g2.trans g3).mut d (g.free d nL), ?_⟩
      · rcases List.mem_append.mp hz with hz | hz
        · exact hk z hz
        · rw [List.mem_singleton.mp hz]; omega
      · rw [upd_same, List.map_append, List.map_append]
        rfl
    · rintro H2 ⟨l, hl, hk, g2, e2⟩
      refine ⟨_, L, _, rfl, rfl, .inl (.inl (.inl e2)), ?_, ?_⟩
      · rw [word_sum, List.length_map, show (Str.ofString "").length = 0 from rfl]
        omega
      · have ec : cs (Txt.join (Str.ofString "") (l.map fun k => (⟨#[let_ k]⟩ : Str))) = l.map let_ := by
          unfold Txt.join
          rw [PySem.StrLaws.glued_eq_join]
          exact (cs_join _).trans (word_len l)
        refine q _ _ (fun c hc => ?_) ?_ ?_ g2
        · rw [ec] at hc
          obtain ⟨k, hk1, rfl⟩ := List.mem_map.mp hc
          exact let_mem (hk k hk1)
        · rw [cs_len, ec, List.length_map]; omega
        · rw [cs_len, ec, List.length_map]; omega
end
end Th
namespace Th
open PySem PySem.Spec PyProof.Rows L2
abbrev s_l_shuffle : Stmt := topS 83
theorem sc_l_shuffle : FnScope ["_law_state", "_law_pool", "_law_some", "_law_x"] ["_law_state", "_law_pool"] (defScope s_l_shuffle) := ⟨rfl, rfl, rfl, by decide +kernel, rfl, by decide +kernel, by decide +kernel⟩
/-- the things of a list in any order, in a new list -/
def spShuffle (K : PySem.W.Frag) : Sp := fun vs H Q _ => ∃ (D : DS) (q : Addr) (xs : List V), vs = [.ref D.p, .ref q] ∧ Drw D H ∧ SqL K (hid D.p H) q xs ∧ xs.length ≤ 1000 ∧
  ∀ (r : Addr) (ys : List V) H', ys.Perm xs → H r = none → H' r = some (.lst ys) → Go D H H' → Q (.ref r) H'
theorem ins_perm (ys : List V) (i : Nat) (v : V) : (ys.take i ++ [v] ++ ys.drop i).Perm (ys ++ [v]) := by
  have a : (ys.take i ++ [v] ++ ys.drop i).Perm (v :: (ys.take i ++ ys.drop i)) := by
    rw [List.append_assoc]
    exact List.perm_middle
  rw [List.take_append_drop] at a
  exact a.trans (List.perm_append_singleton _ _).symm
section
variable {P : Program} {w : World} {K : PySem.W.Frag} {mg : Str → Option Value} {base : Heap} {CB : Addr}
theorem has_l_shuffle (Z : Zs mg) (A : At K mg "_law_shuffle" s_l_shuffle ["_law_state", "_law_pool"]) (h_l_draw : Has P w K mg base "_law_draw" s_l_draw 1 ["_law_state", "_law_many"] (spDraw)) : Has P w K mg base "_law_shuffle" s_l_shuffle 2 ["_law_state", "_law_pool"] (spShuffle K) := by
  obtain ⟨f, fd, F, mg1, bd⟩ := A
  obtain ⟨f_l_draw, fd_l_draw, G_l_draw, m_l_draw, k_l_draw, b_l_draw, F_l_draw⟩ := h_l_draw
  refine ⟨f, fd, ?_, mg1, F.kp, bd, F⟩
  refine F.ok sc_l_shuffle (fun vs H Q E h => ?_) (fun cdv A outer s H vs Q E hr h => ?_)
  · obtain ⟨D, p, xs, rfl, _⟩ := h
    rfl
  · obtain ⟨D, p, xs, rfl, d, hS, h1, q⟩ := h
    refine ⟨_, (pss_cons (ps_set (i := 2) sc_l_shuffle.nd rfl (Or.inl rfl) (pe_lst pa_nil)) (pss_cons (ps_for PassesOwn.never rfl (pi_list (pv 1)) (pg_name (i := 3) sc_l_shuffle.nd rfl (Or.inl rfl)) (pss_one (ps_expr (pe_bm PySem.F.plainAttrs_list PySem.F.slot_list_insert PySem.F.type_list_insert mt_insert (pv 2) (pa_cons (pe_call G_l_draw (hr.mono (by decide)) (by rfl) m_l_draw k_l_draw b_l_draw .nil pass0 (pa_cons (pv 0) (pa_cons (pe_op op_add (pe_callB call_len_seq (by rfl) Z.len_ (by decide +kernel) (pa_cons (pv 2) pa_nil)) pe_int) pa_nil))) (pa_cons (pv 3) pa_nil)))))) (pss_one (ps_ret (pv 2))))), ?_⟩
    refine ⟨Nat.zero_le _, fun r nr => ?_⟩
    have nrp := d.ne_new nr
    refine ⟨_, rfl, p, rfl, ⟨xs, (same_new nr).seq (hid_same.seq hS)⟩, for_list (K := K) (a := p) (xs := xs) (fun i σ H2 => ∃ (y : Option V) (ys : List V), σ = [some (.ref D.p), some (.ref p), some (.ref r), y] ∧ Go D H H2 ∧ H2 r = some (.lst ys) ∧ ys.Perm (xs.take i))
      ⟨none, [], rfl, (Go.refl d).new nr, upd_same, List.Perm.nil⟩ (fun i σ H2 _ ⟨_, _, _, g, _⟩ => hid_same.seq (g.sm.seq hS)) ?_ ?_⟩
    · rintro i v σ H2 hi ⟨y, ys, rfl, g, er, pm⟩
      have hil := lt_of_get hi
      have hlen : ys.length = i := by rw [pm.length_eq, List.length_take]; omega
      refine ⟨_, rfl, .inl ⟨rfl, _, .inl (.inl er)⟩, _, rfl, _, rfl, r, ys, rfl, .inl (.inl (.inl er)), _, _, rfl, rfl, D, _, rfl, g.st, by omega, by omega, fun k H3 k0 k1 g3 => ?_⟩
      refine ⟨_, rfl, r, ys, k, v, rfl, rfl, g3.old nrp er, slineL (by omega), k0, by omega, ?_⟩
      refine ⟨_, _, rfl, (g.trans g3).mut d nr, upd_same, (ins_perm ys k.toNat v).trans ?_⟩
      rw [List.take_add_one, hi]
      exact pm.append_right [v]
    · rintro σ H2 ⟨y, ys, rfl, g, er, pm⟩
      rw [List.take_length] at pm
      exact ⟨_, rfl, q r ys H2 pm nr er g⟩
end
end Th
namespace Th
open PySem PySem.Spec PyProof.Rows L2
abbrev s_l_names : Stmt := topS 86
theorem sc_l_names : FnScope ["_law_state", "_law_many", "_law_first", "_law_stride", "_law_letters_here", "_law_k", "_law_signs", "_law_way", "_law_stem", "_law_spot", "_law_sign", "_law_known", "_law_some", "_law_longer", "_law_tag", "_law_spare"] ["_law_state", "_law_many"] (defScope s_l_names) := ⟨rfl, rfl, rfl, by decide +kernel, rfl, by decide +kernel, by decide +kernel⟩
/-- n names, each once, in a new list -/
def spNames (K : PySem.W.Frag) : Sp := fun vs H Q _ => ∃ (D : DS) (n : Int), vs = [.ref D.p, .int n] ∧ Drw D H ∧ 0 < n ∧ n ≤ 40 ∧ ∀ (r : Addr) (xs : List Str) H', Nms xs → (xs.length : Int) = n → H r = none → H' r = some (.lst (xs.map V.str)) → Go D H H' → Q (.ref r) H'
section
variable {P : Program} {w : World} {K : PySem.W.Frag} {mg : Str → Option Value} {base : Heap} {CB : Addr}
theorem has_l_names (Z : Zs mg) (A : At K mg "_law_names" s_l_names ["_law_state", "_law_many"]) (h_l_draw : Has P w K mg base "_law_draw" s_l_draw 1 ["_law_state", "_law_many"] (spDraw)) (h_l_pick : Has P w K mg base "_law_pick" s_l_pick 2 ["_law_state", "_law_pool"] (spPick K)) (h_l_letters : Has P w K mg base "_law_letters" s_l_letters 1 [] (spLetters)) (h_l_word : Has P w K mg base "_law_word" s_l_word 2 ["_law_state", "_law_longest"] (spWord K)) (h_l_shuffle : Has P w K mg base "_law_shuffle" s_l_shuffle 2 ["_law_state", "_law_pool"] (spShuffle K)) : Has P w K mg base "_law_names" s_l_names 3 ["_law_state", "_law_many"] (spNames K) := by
  obtain ⟨f, fd, F, mg1, bd⟩ := A
  obtain ⟨f_l_draw, fd_l_draw, G_l_draw, m_l_draw, k_l_draw, b_l_draw, F_l_draw⟩ := h_l_draw
  obtain ⟨f_l_pick, fd_l_pick, G_l_pick, m_l_pick, k_l_pick, b_l_pick, F_l_pick⟩ := h_l_pick
  obtain ⟨f_l_letters, fd_l_letters, G_l_letters, m_l_letters, k_l_letters, b_l_letters, F_l_letters⟩ := h_l_letters
  obtain ⟨f_l_word, fd_l_word, G_l_word, m_l_word, k_l_word, b_l_word, F_l_word⟩ := h_l_word
  obtain ⟨f_l_shuffle, fd_l_shuffle, G_l_shuffle, m_l_shuffle, k_l_shuffle, b_l_shuffle, F_l_shuffle⟩ := h_l_shuffle
  refine ⟨f, fd, ?_, mg1, F.kp, bd, F⟩
  refine F.ok sc_l_names (fun vs H Q E h => ?_) (fun cdv A outer s H vs Q E hr h => ?_)
  · obtain ⟨D, n, rfl, _⟩ := h
    rfl
  · obtain ⟨D, n, rfl, d, n0, n1, q⟩ := h
    refine ⟨_, (pss_cons (ps_asg (pe_tup (pa_cons (pe_call G_l_draw (hr.mono (by decide)) (by rfl) m_l_draw k_l_draw b_l_draw .nil pass0 (pa_cons (pv 0) (pa_cons pe_int pa_nil))) (pa_cons (pe_call G_l_pick (hr.mono (by decide)) (by rfl) m_l_pick k_l_pick b_l_pick .nil pass0 (pa_cons (pv 0) (pa_cons (pe_lst (pa_cons pe_int (pa_cons pe_int (pa_cons pe_int (pa_cons pe_int (pa_cons pe_int (pa_cons pe_int (pa_cons pe_int pa_nil)))))))) pa_nil))) pa_nil))) (pg_tup (by rfl) (pgs_cons (pg_name (i := 2) sc_l_names.nd rfl (Or.inr rfl)) (pgs_cons (pg_name (i := 3) sc_l_names.nd rfl (Or.inr rfl)) pgs_nil)))) (pss_cons (ps_set (i := 4) sc_l_names.nd rfl (Or.inr rfl) (pe_lc (own := [("_law_k", 5)]) (g := gName 5) (by rfl) sc_l_names.nd (pi_range1 (by rfl) Z.range_ (pa_cons (pv 1) pa_nil)) (blkOk_by (own := [("_law_k", 5)]) (N := ["_law_state", "_law_many", "_law_first", "_law_stride", "_law_letters_here", "_law_k", "_law_signs", "_law_way", "_law_stem", "_law_spot", "_law_sign", "_law_known", "_law_some", "_law_longer", "_law_tag", "_law_spare"]) (sc := defScope s_l_names) (by decide +kernel)) (fun _ _ _ _ _ => pg_name (i := 5) sc_l_names.nd rfl (Or.inl rfl)) (fun _ _ _ _ _ => pts_nil) (fun _ _ _ _ _ => (pe_ix ix_str (pe_call0 G_l_letters (hr.mono (by decide)) (by rfl) m_l_letters k_l_letters b_l_letters .nil pass0) (pe_op op_mod (pe_callTy call_int1 (by rfl) Z.int_ (by decide +kernel) (pa_cons (pe_op op_add (pv 2) (pe_op op_mod (pe_op op_mul (pv 3) (pe_callTy call_int1 (by rfl) Z.int_ (by decide +kernel) (pa_cons (pv 5) pa_nil))) pe_int)) pa_nil)) pe_int) (fun _ _ => rfl))))) (pss_cons (ps_setLc (i := 6) (own := [("_law_k", 5)]) (g := gName 5) (by rfl) sc_l_names.nd rfl rfl (sw_true rfl rfl rfl (by decide +kernel)) (pi_range1 (by rfl) Z.range_ (pa_cons (pv 1) pa_nil)) (blkOk_by (own := [("_law_k", 5)]) (N := ["_law_state", "_law_many", "_law_first", "_law_stride", "_law_letters_here", "_law_k", "_law_signs", "_law_way", "_law_stem", "_law_spot", "_law_sign", "_law_known", "_law_some", "_law_longer", "_law_tag", "_law_spare"]) (sc := defScope s_l_names) (by decide +kernel)) (fun _ _ _ _ _ => pg_name (i := 5) sc_l_names.nd rfl (Or.inl rfl)) (fun _ _ _ _ _ => pts_nil) (fun _ _ _ _ _ => (pe_op op_add_str (pe_ix (show IxR _ (rIxL K) from ix_list) (pv 4) (pv 5) (fun _ _ => rfl)) (pe_ifExp (pt_cmpR op_lt (pv 5) pe_int (nomark _)) pe_str (pe_ix ix_str (pe_call0 G_l_letters (hr.mono (by decide)) (by rfl) m_l_letters k_l_letters b_l_letters .nil pass0) (pe_op op_fdiv (pv 5) pe_int) (fun _ _ => rfl)))))) (pss_cons (ps_asg (pe_tup (pa_cons (pe_call G_l_draw (hr.mono (by decide)) (by rfl) m_l_draw k_l_draw b_l_draw .nil pass0 (pa_cons (pv 0) (pa_cons pe_int pa_nil))) (pa_cons (pe_call G_l_word (hr.mono (by decide)) (by rfl) m_l_word k_l_word b_l_word .nil pass0 (pa_cons (pv 0) (pa_cons pe_int pa_nil))) pa_nil))) (pg_tup (by rfl) (pgs_cons (pg_name (i := 7) sc_l_names.nd rfl (Or.inl rfl)) (pgs_cons (pg_name (i := 8) sc_l_names.nd rfl (Or.inr rfl)) pgs_nil)))) (pss_cons (ps_if (pt_cmpR op_eq (pv 7) pe_int (nomark _)) (pss_cons (ps_set (i := 9) sc_l_names.nd rfl (Or.inr rfl) (pe_call G_l_draw (hr.mono (by decide)) (by rfl) m_l_draw k_l_draw b_l_draw .nil pass0 (pa_cons (pv 0) (pa_cons (pe_op op_add (pe_callB call_len_str (by rfl) Z.len_ (by decide +kernel) (pa_cons (pv 8) pa_nil)) pe_int) pa_nil)))) (pss_one (ps_ret (pe_lc (own := [("_law_sign", 10)]) (g := gName 10) (by rfl) sc_l_names.nd (pi_list (pv 6)) (blkOk_by (own := [("_law_sign", 10)]) (N := ["_law_state", "_law_many", "_law_first", "_law_stride", "_law_letters_here", "_law_k", "_law_signs", "_law_way", "_law_stem", "_law_spot", "_law_sign", "_law_known", "_law_some", "_law_longer", "_law_tag", "_law_spare"]) (sc := defScope s_l_names) (by decide +kernel)) (fun _ _ _ _ _ => pg_name (i := 10) sc_l_names.nd rfl (Or.inl rfl)) (fun _ _ _ _ _ => pts_nil) (fun _ _ _ _ _ => (pe_op op_add_str (pe_op op_add_str (pe_slice sl_str (pv 8) po_none (po_some (pv 9))) (pv 10)) (pe_slice sl_str (pv 8) (po_some (pv 9)) po_none))))))) pss_nil) (pss_cons (ps_if (pt_cmpR op_eq (pv 7) pe_int (nomark _)) (pss_cons (ps_set (i := 11) sc_l_names.nd rfl (Or.inl rfl) (pe_lst (pa_cons pe_str (pa_cons pe_str (pa_cons pe_str (pa_cons pe_str (pa_cons pe_str (pa_cons pe_str (pa_cons pe_str (pa_cons pe_str (pa_cons pe_str (pa_cons pe_str (pa_cons pe_str (pa_cons pe_str pa_nil)))))))))))))) (pss_one (ps_ret (pe_call G_l_shuffle (hr.mono (by decide)) (by rfl) m_l_shuffle k_l_shuffle b_l_shuffle .nil pass0 (pa_cons (pv 0) (pa_cons (pe_slice sl_list (pe_op op_cat (pe_call G_l_shuffle (hr.mono (by decide)) (by rfl) m_l_shuffle k_l_shuffle b_l_shuffle .nil pass0 (pa_cons (pv 0) (pa_cons (pv 11) pa_nil))) (pv 6)) po_none (po_some (pv 1))) pa_nil)))))) pss_nil) (pss_cons (ps_set (i := 12) sc_l_names.nd rfl (Or.inr rfl) (pe_lst pa_nil)) (pss_cons (ps_for PassesOwn.never rfl (pi_range1 (by rfl) Z.range_ (pa_cons (pv 1) pa_nil)) (pg_name (i := 5) sc_l_names.nd rfl (Or.inl rfl)) (C8.pss_cut (ps_set (i := 13) sc_l_names.nd rfl (Or.inl rfl) (pe_and (pe_cmpR op_gt (pv 5) pe_int (nomark _)) (pe_one (pe_cmpR op_eq (pe_call G_l_draw (hr.mono (by decide)) (by rfl) m_l_draw k_l_draw b_l_draw .nil pass0 (pa_cons (pv 0) (pa_cons pe_int pa_nil))) pe_int (nomark _))))) (C8.pss_cut (ps_set (i := 14) sc_l_names.nd rfl (Or.inl rfl) (pe_ifExp (pt_val (pv 13)) (pe_slice sl_str (pe_op op_add_str (pe_ix ix_list (pv 12) (pe_call G_l_draw (hr.mono (by decide)) (by rfl) m_l_draw k_l_draw b_l_draw .nil pass0 (pa_cons (pv 0) (pa_cons (pv 5) pa_nil))) (fun _ _ => rfl)) (pe_call G_l_word (hr.mono (by decide)) (by rfl) m_l_word k_l_word b_l_word .nil pass0 (pa_cons (pv 0) (pa_cons pe_int pa_nil)))) po_none (po_some pe_int)) (pe_call G_l_word (hr.mono (by decide)) (by rfl) m_l_word k_l_word b_l_word .nil pass0 (pa_cons (pv 0) (pa_cons pe_int pa_nil))))) (pss_cons (ps_setLc (i := 15) (own := [("_law_sign", 10)]) (g := gName 10) (by rfl) sc_l_names.nd rfl rfl (sw_true rfl rfl rfl (by decide +kernel)) (pi_list (pv 6)) (blkOk_by (own := [("_law_sign", 10)]) (N := ["_law_state", "_law_many", "_law_first", "_law_stride", "_law_letters_here", "_law_k", "_law_signs", "_law_way", "_law_stem", "_law_spot", "_law_sign", "_law_known", "_law_some", "_law_longer", "_law_tag", "_law_spare"]) (sc := defScope s_l_names) (by decide +kernel)) (fun _ _ _ _ _ => pg_name (i := 10) sc_l_names.nd rfl (Or.inl rfl)) (fun _ _ _ _ _ => (pts_one (pt_cmpR (show OpR _ (compareOp .NotIn) (rIn K true) from op_notIn_seq) (pv 10) (pv 12) (by rfl)))) (fun _ _ _ _ _ => (pv 10))) (pss_one (ps_expr (pe_bm PySem.F.plainAttrs_list PySem.F.slot_list_append PySem.F.type_list_append mt_append (pv 12) (pa_cons (pe_ifExp (pt_cmpR op_in_seq (pv 14) (pv 12) (by rfl)) (pe_ix ix_list (pv 15) pe_int (fun _ _ => rfl)) (pv 14)) pa_nil)))))))) (pss_one (ps_ret (pv 12))))))))))), ?_⟩
    refine ⟨_, rfl, D, 26, rfl, d, by decide, by decide, fun a H1 a0 a1 g1 => ⟨_, rfl, (by show 7 ≤ sizeLine; decide), fun u nu => ?_⟩⟩
    have nup := g1.st.ne_new nu
    refine ⟨D, u, _, rfl, g1.st.new nu, sqh nup upd_same, by show 0 < 7; decide, by show 7 ≤ 1000; decide, fun i v H2 hv g2 => ?_⟩
    obtain ⟨b, hb, hb2, rfl⟩ := stride_of hv
    obtain ⟨a, rfl⟩ := Int.eq_ofNat_of_zero_le a0
    have ha : a < 26 := by omega
    refine ⟨(by show 2 ≤ sizeLine; decide), fun t nt => ⟨t, _, rfl, .inl (.inl upd_same), rfl, _, _, rfl, _, _, rfl, rfl, ?_⟩⟩
    have g3 := ((g1.new nu).trans g2).new (o := .tup [.int (a : Int), .int (b : Int)]) nt
    generalize upd H2 t (.tup [.int (a : Int), .int (b : Int)]) = H3 at g3 ⊢
    -- the first letters
    refine ⟨_, rfl, _, rfl, by omega, by omega, fun L nL => ?_⟩
    have nLp := g3.st.ne_new nL
    refine lc_range (lo := 0) (n := n.toNat) (fun i H4 => Go D H H4 ∧ H4 L = some (.lst ((List.range i).map fun k => V.str (sg1 a b k)))) ⟨g3.new nL, upd_same⟩ ?_ ?_
    · rintro i H4 hi ⟨g4, e4⟩
      refine ⟨rfl, rfl, _, rfl, _, rfl, _, rfl, .inl ⟨_, rfl, _, _, rfl, rfl, .inl ⟨by omega, by omega⟩, _, _, rfl, rfl, (by show (0 : Int) < 26; decide), _, _, rfl, rfl, .inl ⟨_, rfl, _, _, rfl, rfl, (by show (0 : Int) < 26; decide), abc, _, let_ ((a + b * i % 26) % 26), rfl, rfl, sline_abc, ?_, _, e4, slineL (by rw [List.length_map, List.length_range]; omega), ?_⟩⟩⟩
      · rw [ixe]
        exact atI_nat (xs := cs abc) (let_at (Nat.mod_lt _ (by decide)))
      · exact ⟨g4.mut d (g3.free d nL), by rw [upd_same, mapr]; rfl⟩
    rintro H4 ⟨g4, eL⟩
    -- the signs
    refine ⟨_, rfl, _, rfl, by omega, by omega, fun S nS => ?_⟩
    have nSp := g4.st.ne_new nS
    have nSL : L ≠ S := ne_of_none eL nS
    refine lc_range (lo := 0) (n := n.toNat) (fun i H5 => Go D H H5 ∧ H5 L = some (.lst ((List.range n.toNat).map fun k => V.str (sg1 a b k))) ∧ H5 S = some (.lst ((List.range i).map fun k => V.str (sgn a b k))))
      ⟨g4.new nS, by rw [upd_ne nSL]; exact eL, upd_same⟩ ?_ ?_
    · rintro i H5 hi ⟨g5, eL5, eS5⟩
      have lS : ((List.range i).map fun k => V.str (sgn a b k)).length < sizeLine := slineL (by rw [List.length_map, List.length_range]; omega)
      refine ⟨rfl, _, rfl, _, rfl, L, _, _, _, rfl, rfl, .inl (.inl eL5), atI_of (by omega) (by rw [show ((0 : Int) + (i : Int)).toNat = i by omega]; exact getr _ hi), _, rfl, _, _, rfl, rfl, _, rfl, ?_⟩
      have fin : ∀ H6, H6 = H5 → ∃ acc, H6 S = some (.lst acc) ∧ acc.length < sizeLine ∧ Go D H (upd H6 S (.lst (acc ++ [V.str (sgn a b i)]))) ∧ (upd H6 S (.lst (acc ++ [V.str (sgn a b i)]))) L = some (.lst ((List.range n.toNat).map fun k => V.str (sg1 a b k))) ∧
          (upd H6 S (.lst (acc ++ [V.str (sgn a b i)]))) S = some (.lst ((List.range (i + 1)).map fun k => V.str (sgn a b k))) := fun H6 e => by
        subst e
        exact ⟨_, eS5, lS, g5.mut d (g4.free d nS), by rw [upd_ne nSL]; exact eL5, by rw [upd_same, mapr]⟩
      refine ite2 (fun hk => ?_) (fun hk => ?_)
      · have hk' : i < 26 := by have := of_decide_eq_true hk; omega
        refine ⟨_, _, rfl, rfl, by show 1 + 0 ≤ sizeLine; decide, ?_⟩
        have e : sg1 a b i ++ (Str.ofString "") = sgn a b i := by
          unfold sgn
          rw [if_pos hk']
          rfl
        rw [e]
        exact fin _ rfl
      · have hk' : ¬ i < 26 := fun z => hk (decide_eq_true (by omega))
        refine ⟨rfl, _, rfl, _, _, rfl, rfl, ⟨by decide, by decide⟩, abc, _, let_ (i / 26), rfl, rfl, sline_abc, ?_, _, _, rfl, rfl, by show 1 + 1 ≤ sizeLine; decide, ?_⟩
        · rw [show ((0 : Int) + (i : Int)) / 26 = ((i / 26 : Nat) : Int) by omega]
          exact atI_nat (xs := cs abc) (let_at (by omega))
        · have e : sg1 a b i ++ (⟨#[let_ (i / 26)]⟩ : Str) = sgn a b i := by
            unfold sgn
            rw [if_neg hk']
            rfl
          rw [e]
          exact fin _ rfl
    rintro H5 ⟨g5, eL5, eS5⟩
    have eS : ((List.range n.toNat).map fun k => V.str (sgn a b k)) = (sgns a b n.toNat).map V.str := by
      unfold sgns
      rw [List.map_map]
      rfl
    rw [eS] at eS5
    clear eS eL5 nSL
    have freeS := g4.free d nS
    clear eL nS g4 nL nLp g3
    -- way, stem
    refine ⟨_, rfl, D, 4, rfl, g5.st, by decide, by decide, fun way H6 w0 w1 g6 => ⟨_, rfl, D, 4, rfl, g6.st, by decide, by decide, fun stem H7 k1 k2 k3 g7 => ?_⟩⟩
    refine ⟨(by show 2 ≤ sizeLine; decide), fun t2 nt2 => ⟨t2, _, rfl, .inl (.inl upd_same), rfl, _, _, rfl, _, _, rfl, rfl, ?_⟩⟩
    have g8 := ((g5.trans g6).trans g7).new (o := .tup [.int way, .str stem]) nt2
    have eS8 : (upd H7 t2 (.tup [.int way, .str stem])) S = some (.lst ((sgns a b n.toNat).map V.str)) := by
      have q1 := g7.old nSp (g6.old nSp eS5)
      rw [upd_ne (ne_of_none q1 nt2)]
      exact q1
    generalize upd H7 t2 (.tup [.int way, .str stem]) = H8 at g8 eS8 ⊢
    have lenS : (sgns a b n.toNat).length = n.toNat := sgns_len a b n.toNat
    have l40 : n.toNat ≤ 40 := by omega
    refine ⟨_, rfl, rfl, _, rfl, ?_⟩
    refine ite2 (fun hw => ?_) (fun hw => ?_)
    · -- a stem around each sign
      refine ⟨_, rfl, _, rfl, _, rfl, sline (by omega), _, _, rfl, rfl, D, _, rfl, g8.st, by omega, by omega, fun spot H9 s0 s1 g9 => ?_⟩
      have eS9 := g9.old nSp eS8
      refine ⟨_, rfl, S, rfl, ⟨_, .inl (.inl eS9)⟩, fun R nR => ?_⟩
      have nRp := g9.st.ne_new nR
      have nRS : S ≠ R := ne_of_none eS9 nR
      have freeR := (g8.trans g9).free d nR
      refine lc_list (K := K) (a := S) (xs := (sgns a b n.toNat).map V.str) (fun i H10 => Go D H H10 ∧ H10 S = some (.lst ((sgns a b n.toNat).map V.str)) ∧ H10 R = some (.lst ((((sgns a b n.toNat).map (stm stem spot.toNat)).take i).map V.str)))
        ⟨(g8.trans g9).new nR, by rw [upd_ne nRS]; exact eS9, upd_same⟩ (fun i H10 _ z => .inl (.inl z.2.1)) ?_ ?_
      · rintro i y H10 hi ⟨g10, e1, e2⟩
        obtain ⟨x, hx, rfl⟩ := getmap hi
        have hxm := sgns_mem l40 (List.mem_of_getElem? hx)
        have hlt := lt_of_get hx
        have c1 := cutS_length stem none (some spot)
        have c2 := cutS_length stem (some spot) none
        refine ⟨rfl, _, rfl, _, rfl, spot, rfl, stem, rfl, sline (by omega), _, rfl, _, _, rfl, rfl, sline (by omega), _, rfl, _, rfl, spot, rfl, stem, rfl, sline (by omega), _, _, rfl, rfl, sline ?_, ?_⟩
        · show ((cutS stem none (some spot)).cps ++ x.cps).size + _ ≤ 100000
          rw [Array.size_append]
          have z1 : (cutS stem none (some spot)).cps.size = (cutS stem none (some spot)).length := rfl
          have z2 : x.cps.size = x.length := rfl
          omega
        · rw [stm_eq s0 (by omega)]
          refine ⟨_, e2, slineL (by rw [List.length_map, List.length_take]; omega), g10.mut d freeR, by rw [upd_ne nRS]; exact e1, ?_⟩
          rw [upd_same, take_succ_map (f := V.str) (x := stm stem spot.toNat x) (by rw [List.getElem?_map, hx]; rfl)]
      · rintro H10 ⟨g10, e1, e2⟩
        rw [List.length_map, show (sgns a b n.toNat).length = ((sgns a b n.toNat).map (stm stem spot.toNat)).length from (List.length_map _).symm, List.take_length] at e2
        exact q R _ H10 (nms_stem k1 (by omega) ha hb l40) (by rw [List.length_map, lenS]; omega) freeR e2 g10
    refine ⟨_, rfl, rfl, _, rfl, ?_⟩
    refine ite2 (fun hw1 => ?_) (fun hw1 => ?_)
    · -- words of the texts ahead
      refine ⟨(by show 12 ≤ sizeLine; decide), fun c nc => ?_⟩
      have ncp := g8.st.ne_new nc
      have g9 := g8.new (o := .lst (kno.map V.str)) nc
      have eS9 : (upd H8 c (.lst (kno.map V.str))) S = some (.lst ((sgns a b n.toNat).map V.str)) := by rw [upd_ne (ne_of_none eS8 nc)]; exact eS8
      have ec9 : (upd H8 c (.lst (kno.map V.str))) c = some (.lst (kno.map V.str)) := upd_same
      show _
      refine ⟨_, rfl, _, rfl, _, rfl, D, c, kno.map V.str, rfl, g9.st, sqh ncp ec9, by show 12 ≤ 1000; decide, fun r ys H10 pm nr er g10 => ?_⟩
      obtain ⟨zs, rfl, pz⟩ := perm_strs pm
      have lz : zs.length = 12 := pz.length_eq
      have eS10 := g10.old nSp eS9
      refine ⟨_, rfl, r, S, _, _, rfl, rfl, er, eS10, sline (by rw [List.length_map, List.length_map]; omega), fun e ne_ => ?_⟩
      have nep := g10.st.ne_new ne_
      rw [← List.map_append]
      refine ⟨_, rfl, n, rfl, e, _, rfl, .inl (.inl upd_same), fun v nv => ?_⟩
      have nvp := ((g9.trans g10).new ne_).st.ne_new nv
      rw [cut_to _ (by omega), ← List.map_take]
      have nm := nms_known ha hb l40 pz n.toNat
      have lm : ((zs ++ sgns a b n.toNat).take n.toNat).length = n.toNat := by rw [List.length_take, List.length_append]; omega
      generalize (zs ++ sgns a b n.toNat).take n.toNat = ws at nm lm ⊢
      refine ⟨D, v, ws.map V.str, rfl, (((g9.trans g10).new ne_).new nv).st, sqh nvp upd_same, by rw [List.length_map]; omega, fun r2 ys2 H11 pm2 nr2 er2 g11 => ?_⟩
      obtain ⟨zs2, rfl, pz2⟩ := perm_strs pm2
      have gg := ((g9.trans g10).new ne_).new (o := .lst (ws.map V.str)) nv
      exact q r2 zs2 H11 ⟨pz2.nodup_iff.mpr nm.1, fun x hx => nm.2 x (pz2.mem_iff.mp hx)⟩ (by rw [pz2.length_eq, lm]; omega) (gg.free d nr2) er2 (gg.trans g11)
    · -- names one by one
      refine ⟨Nat.zero_le _, fun R nR => ?_⟩
      have nRp := g8.st.ne_new nR
      have nRS : S ≠ R := ne_of_none eS8 nR
      have freeR := g8.free d nR
      refine ⟨_, rfl, n, rfl, by omega, by omega, for_range (lo := 0) (n := n.toNat) (fun i σ H9 => ∃ (xs : List Str) (y1 y2 y3 y4 : Option V), σ = [some (.ref D.p), some (.int n), some (.int a), some (.int b), some (.ref L), y1, some (.ref S), some (.int way), some (.str stem), none, none, none, some (.ref R), y2, y3, y4] ∧
          Go D H H9 ∧ H9 S = some (.lst ((sgns a b n.toNat).map V.str)) ∧ H9 R = some (.lst (xs.map V.str)) ∧ Nms xs ∧ xs.length = i)
        ⟨[], none, none, none, none, rfl, g8.new nR, by rw [upd_ne nRS]; exact eS8, upd_same, ⟨List.nodup_nil, fun _ z => nomatch z⟩, rfl⟩ ?_ ?_⟩
      · rintro i σ H9 hi ⟨xs, y1, y2, y3, y4, rfl, g9, e1, e2, nm, lx⟩
        have lxs : (xs.map V.str).length ≤ 40 := by rw [List.length_map]; omega
        refine ⟨fun σ H10 => ∃ (c : Bool) (y3 y4 : Option V), σ = [some (.ref D.p), some (.int n), some (.int a), some (.int b), some (.ref L), some (.int (0 + (i : Int))), some (.ref S), some (.int way), some (.str stem), none, none, none, some (.ref R), some (.bl c), y3, y4] ∧
          Go D H H10 ∧ H10 S = some (.lst ((sgns a b n.toNat).map V.str)) ∧ H10 R = some (.lst (xs.map V.str)) ∧ (c = true → 0 < i), ?_, ?_⟩
        · refine ⟨_, rfl, _, _, rfl, rfl, _, rfl, ?_⟩
          refine ite2 (fun hp => ?_) (fun hp => ?_)
          · have hp' : 0 < i := by have := of_decide_eq_true hp; omega
            refine ⟨_, rfl, D, 3, rfl, g9.st, by decide, by decide, fun r H10 r0 r1 g10 => ⟨rfl, _, _, _, rfl, g9.trans g10, g10.old nSp e1, g10.old nRp e2, fun _ => hp'⟩⟩
          · exact ⟨_, _, _, rfl, g9, e1, e2, fun z => nomatch z⟩
        rintro σ H10 ⟨c, y3, y4, rfl, g10, e3, e4, hc⟩
        refine ⟨fun σ H11 => ∃ (tag : Str) (y4 : Option V), σ = [some (.ref D.p), some (.int n), some (.int a), some (.int b), some (.ref L), some (.int (0 + (i : Int))), some (.ref S), some (.int way), some (.str stem), none, none, none, some (.ref R), some (.bl c), some (.str tag), y4] ∧
          Go D H H11 ∧ H11 S = some (.lst ((sgns a b n.toNat).map V.str)) ∧ H11 R = some (.lst (xs.map V.str)) ∧ isNm tag = true, ?_, ?_⟩
        · refine ⟨_, rfl, c, rfl, ?_⟩
          cases c with
          | true =>
            refine iteT ?_
            have hp' := hc rfl
            refine ⟨_, rfl, _, rfl, _, rfl, D, _, rfl, g10.st, by omega, by omega, fun r H11 r0 r1 g11 => ?_⟩
            obtain ⟨v, hv⟩ : ∃ v, xs[r.toNat]? = some v := ⟨_, List.getElem?_eq_getElem (by omega)⟩
            have hvn := nm.2 v (List.mem_of_getElem? hv)
            refine ⟨R, _, r, .str v, rfl, rfl, .inl (.inl (g11.old nRp e4)), atI_of r0 (by rw [List.getElem?_map, hv]; rfl), ?_⟩
            refine ⟨_, rfl, D, 1, rfl, g11.st, by decide, by decide, fun x H12 x1 x2 x3 g12 => ?_⟩
            have hvl := isNm_len hvn
            have hz : (v ++ x).length ≤ 100000 := by rw [cs_len, cs_app, List.length_append, ← cs_len, ← cs_len]; omega
            refine ⟨_, _, rfl, rfl, sline (by omega), 6, rfl, _, rfl, sline hz, ?_⟩
            exact ⟨_, _, rfl, (g10.trans g11).trans g12, g12.old nSp (g11.old nSp e3), g12.old nRp (g11.old nRp e4), nm_long hvn x1⟩
          | false =>
            refine iteF ?_
            refine ⟨_, rfl, D, 6, rfl, g10.st, by decide, by decide, fun x H12 x1 x2 x3 g12 => ?_⟩
            exact ⟨_, _, rfl, g10.trans g12, g12.old nSp e3, g12.old nRp e4, nm_word x1 x2 x3⟩
        rintro σ H11 ⟨tag, y4, rfl, g11, e5, e6, ht⟩
        refine ⟨_, rfl, S, rfl, ⟨_, .inl (.inl e5)⟩, fun T nT => ?_⟩
        have nTp := g11.st.ne_new nT
        have nTS : S ≠ T := ne_of_none e5 nT
        have nTR : R ≠ T := ne_of_none e6 nT
        refine lc_list (K := K) (a := S) (xs := (sgns a b n.toNat).map V.str) (fun i H12 => Go D H H12 ∧ H12 S = some (.lst ((sgns a b n.toNat).map V.str)) ∧ H12 R = some (.lst (xs.map V.str)) ∧ H12 T = some (.lst ((((sgns a b n.toNat).take i).filter (fun s => !decide (s ∈ xs))).map V.str)))
          ⟨g11.new nT, by rw [upd_ne nTS]; exact e5, by rw [upd_ne nTR]; exact e6, upd_same⟩ (fun i H12 _ z => .inl (.inl z.2.1)) ?_ ?_
        · rintro j y H12 hj ⟨g12, z1, z2, z3⟩
          obtain ⟨x, hx, rfl⟩ := getmap hj
          have hlt := lt_of_get hx
          have hl3 : ((((sgns a b n.toNat).take j).filter (fun s => !decide (s ∈ xs))).map V.str).length < sizeLine := by
            refine slineL ?_
            rw [List.length_map]
            have q1 := List.length_filter_le (fun s => !decide (s ∈ xs)) ((sgns a b n.toNat).take j)
            rw [List.length_take] at q1
            omega
          have step : ((sgns a b n.toNat).take (j + 1)).filter (fun s => !decide (s ∈ xs)) = ((sgns a b n.toNat).take j).filter (fun s => !decide (s ∈ xs)) ++ (if x ∈ xs then [] else [x]) := by
            rw [List.take_add_one, hx, List.filter_append]
            by_cases hm : x ∈ xs
            · simp [hm]
            · simp [hm]
          refine ⟨rfl, _, rfl, _, rfl, R, _, rfl, .inl (.inl (.inl z2)), rfl, flatS xs, _, rfl, ?_⟩
          rw [inS]
          refine ite2 (fun hm => ?_) (fun hm => ?_)
          · have hm' : x ∉ xs := by simpa using hm
            refine ⟨_, rfl, _, z3, hl3, g12.mut d (g11.free d nT), by rw [upd_ne nTS]; exact z1, by rw [upd_ne nTR]; exact z2, ?_⟩
            rw [upd_same, step, if_neg hm', List.map_append]
            rfl
          · have hm' : x ∈ xs := by simpa using hm
            refine ⟨g12, z1, z2, ?_⟩
            rw [z3, step, if_pos hm', List.append_nil]
        · rintro H12 ⟨g12, z1, z2, z3⟩
          rw [List.length_map, List.take_length] at z3
          refine ⟨_, rfl, .inl ⟨rfl, _, .inl (.inl z2)⟩, _, rfl, _, rfl, R, _, rfl, .inl (.inl (.inl z2)), rfl, flatS xs, _, rfl, ?_⟩
          rw [inS]
          have app : ∀ x : Str, isNm x = true → x ∉ xs → ∃ l ys w, V.ref R = V.ref l ∧ [V.str x] = [w] ∧ H12 l = some (.lst ys) ∧ ys.length < sizeLine ∧
              ∃ (xs' : List Str) (y1 y2 y3 y4 : Option V), [some (V.ref D.p), some (V.int n), some (V.int a), some (V.int b), some (V.ref L), some (V.int (0 + (i : Int))), some (V.ref S), some (V.int way), some (V.str stem), none, none, none, some (V.ref R), some (V.bl c), some (V.str tag), some (V.ref T)] =
                [some (.ref D.p), some (.int n), some (.int a), some (.int b), some (.ref L), y1, some (.ref S), some (.int way), some (.str stem), none, none, none, some (.ref R), y2, y3, y4] ∧
                Go D H (upd H12 l (.lst (ys ++ [w]))) ∧ (upd H12 l (.lst (ys ++ [w]))) S = some (.lst ((sgns a b n.toNat).map V.str)) ∧ (upd H12 l (.lst (ys ++ [w]))) R = some (.lst (xs'.map V.str)) ∧ Nms xs' ∧ xs'.length = i + 1 := fun x hx hn =>
            ⟨R, _, _, rfl, rfl, z2, slineL (by omega), xs ++ [x], _, _, _, _, rfl, g12.mut d freeR, by rw [upd_ne nRS]; exact z1, by rw [upd_same, List.map_append]; rfl, nm.snoc hx hn, by rw [List.length_append, lx]; rfl⟩
          refine ite2 (fun hm => ?_) (fun hm => ?_)
          · obtain ⟨s0, r0, hs0⟩ := spare_left (xs := xs) (sgns_nodup ha hb l40) (by omega)
            rw [hs0] at z3
            refine ⟨_, rfl, T, _, 0, .str s0, rfl, rfl, .inl (.inl z3), atI_of (by decide) rfl, ?_⟩
            have hs1 : s0 ∈ (sgns a b n.toNat).filter (fun s => !decide (s ∈ xs)) := by rw [hs0]; exact List.mem_cons_self
            obtain ⟨hs2, hs3⟩ := List.mem_filter.mp hs1
            obtain ⟨q1, q2, q3⟩ := sgns_mem l40 hs2
            exact app s0 (isNm_iff.mpr ⟨q1, by omega, q3⟩) (by simpa using hs3)
          · exact ⟨_, rfl, app tag ht (by simpa using hm)⟩
      · rintro σ H9 ⟨xs, y1, y2, y3, y4, rfl, g9, e1, e2, nm, lx⟩
        exact ⟨_, rfl, q R xs H9 nm (by omega) freeR e2 g9⟩
end
end Th
namespace Th
open PySem PySem.Spec PyProof.Rows L2
abbrev s_l_odd : Stmt := topS 87
theorem sc_l_odd : FnScope ["_law_state"] ["_law_state"] (defScope s_l_odd) := ⟨rfl, rfl, rfl, by decide +kernel, rfl, by decide +kernel, by decide +kernel⟩
/-- the second argument of the call that a def hands back -/
def argE (s : Stmt) : Expr := match defBody s with
  | [.Return (some (.Call _ [_, e] _ _)) _] => e
  | _ => .Constant .none 0 ⟨0, 0, 0, 0⟩
def spOdd (K : PySem.W.Frag) : Sp := fun vs H Q _ => ∃ (D : DS), vs = [.ref D.p] ∧ Drw D H ∧ ∀ (v : V) (d : PyData) H', d ∈ odds → Go D H H' → Da K (hid D.p H') v d → Q v H'
section
variable {P : Program} {w : World} {K : PySem.W.Frag} {mg : Str → Option Value} {base : Heap} {CB : Addr}
theorem has_l_odd (Z : Zs mg) (A : At K mg "_law_odd" s_l_odd ["_law_state"]) (h_l_pick : Has P w K mg base "_law_pick" s_l_pick 2 ["_law_state", "_law_pool"] (spPick K)) : Has P w K mg base "_law_odd" s_l_odd 3 ["_law_state"] (spOdd K) := by
  obtain ⟨f, fd, F, mg1, bd⟩ := A
  obtain ⟨f_l_pick, fd_l_pick, G_l_pick, m_l_pick, k_l_pick, b_l_pick, F_l_pick⟩ := h_l_pick
  refine ⟨f, fd, ?_, mg1, F.kp, bd, F⟩
  refine F.ok sc_l_odd (fun vs H Q E h => ?_) (fun cdv A outer s H vs Q E hr h => ?_)
  · obtain ⟨D, rfl, _⟩ := h
    rfl
  · obtain ⟨D, rfl, d, q⟩ := h
    obtain ⟨t, pe, lit, _⟩ := litE_ok (K := K) (X := (cxOf CX0 P w K mg base ["_law_state"] "_law_odd" (defScope s_l_odd) f cdv A outer s H E).nox) 3 (argE s_l_odd) (.list odds) (by kernel_rfl)
    refine ⟨_, (pss_one (ps_ret (pe_call G_l_pick (hr.mono (by decide)) (by rfl) m_l_pick k_l_pick b_l_pick .nil pass0 (pa_cons (pv 0) (pa_cons pe pa_nil))))), ?_⟩
    refine ⟨_, rfl, lit D _ H _ d fun v H1 g1 r => ?_⟩
    cases r with
    | lst hs ht ha =>
      have lv := ha.len
      have l35 : odds.length = 35 := rfl
      refine ⟨D, _, _, rfl, g1.st, hs, by omega, by omega, fun i v H2 hv g3 => ?_⟩
      obtain ⟨e, he, re⟩ := ha.at hv
      exact q v e H2 (List.mem_of_getElem? he) (g1.trans g3) (re.to g3.sm)
end
end Th
namespace Th
open PySem PySem.Spec PyProof.Rows L2
abbrev s_l_same : Stmt := topS 88
theorem sc_l_same : FnScope ["_law_got", "_law_due", "_law_k"] ["_law_got", "_law_due"] (defScope s_l_same) := ⟨rfl, rfl, rfl, by decide +kernel, rfl, by decide +kernel, by decide +kernel⟩

/-- two values of the same datum are told to be the same -/
def spSm (K : PySem.W.Frag) (n : Nat) : Sp := fun vs H Q _ => ∃ (v u : V) (d : PyData), vs = [v, u] ∧ Da K H v d ∧ Da K H u d ∧ LvN n d ∧ ∀ H', Same H H' → Q (.bl true) H'
section
variable {P : Program} {w : World} {K : PySem.W.Frag} {mg : Str → Option Value} {base : Heap}
theorem same_step (Z : Zs mg) {f : Addr} {fd : FuncData} (F : Fun K "_law_same" "_law_same" s_l_same f fd) (m_l_same : mg "_law_same" = some (.ref f)) (b_l_same : Binds K fd ["_law_got", "_law_due"] []) (k : Nat)
    (G_l_same : FnOk P w K mg base CX0 k f fd ["_law_got", "_law_due"] (spSm K k)) : FnOk P w K mg base CX0 (k + 1) f fd ["_law_got", "_law_due"] (spSm K (k + 1)) := by
  have k_l_same := F.kp
  refine F.ok sc_l_same (fun vs H Q E h => ?_) (fun cdv A outer s H vs Q E hr h => ?_)
  · obtain ⟨v, u, d, rfl, _⟩ := h
    rfl
  · obtain ⟨v, u, d, rfl, rv, ru, lv, q⟩ := h
    have lv : Lv k d := lv
    have nd := rv.nodict
    refine ⟨_, (pss_cons (ps_if (pt_val (pe_callB (show CallR _ (.builtin "isinstance") (rIsiT K) from call_isiT) (by rfl) Z.isinstance_ (by decide +kernel) (pa_cons (pv 1) (pa_cons (pe_tup (pa_cons (pe_bltn (v := .ty "list") (by rfl) Z.list_ (by decide +kernel) rfl) (pa_cons (pe_bltn (v := .ty "tuple") (by rfl) Z.tuple_ (by decide +kernel) rfl) pa_nil))) pa_nil)))) (pss_cons (ps_if (PW.pt (pw_or (pt_cmpR op_ne (pe_callB call_isi (by rfl) Z.isinstance_ (by decide +kernel) (pa_cons (pv 0) (pa_cons (pe_bltn (v := .ty "list") (by rfl) Z.list_ (by decide +kernel) rfl) pa_nil))) (pe_callB call_isi (by rfl) Z.isinstance_ (by decide +kernel) (pa_cons (pv 1) (pa_cons (pe_bltn (v := .ty "list") (by rfl) Z.list_ (by decide +kernel) rfl) pa_nil))) (nomark _)) (pw_or1 (pt_cmpR op_ne (pe_callB call_isi (by rfl) Z.isinstance_ (by decide +kernel) (pa_cons (pv 0) (pa_cons (pe_bltn (v := .ty "tuple") (by rfl) Z.tuple_ (by decide +kernel) rfl) pa_nil))) (pe_callB call_isi (by rfl) Z.isinstance_ (by decide +kernel) (pa_cons (pv 1) (pa_cons (pe_bltn (v := .ty "tuple") (by rfl) Z.tuple_ (by decide +kernel) rfl) pa_nil))) (nomark _))))) (pss_one (ps_ret pe_bl)) pss_nil) (pss_one (ps_ret (pe_and (pe_cmpR op_eq (pe_callB call_len_seq (by rfl) Z.len_ (by decide +kernel) (pa_cons (pv 0) pa_nil)) (pe_callB call_len_seq (by rfl) Z.len_ (by decide +kernel) (pa_cons (pv 1) pa_nil)) (nomark _)) (pe_one (pe_callB (cr_all rfl) (by rfl) Z.all_ (by decide +kernel) (pa_cons (pe_lc (own := [("_law_k", 2)]) (g := gName 2) (by rfl) sc_l_same.nd (pi_range1 (by rfl) Z.range_ (pa_cons (pe_callB call_len_seq (by rfl) Z.len_ (by decide +kernel) (pa_cons (pv 1) pa_nil)) pa_nil)) (blkOk_by (own := [("_law_k", 2)]) (N := ["_law_got", "_law_due", "_law_k"]) (sc := defScope s_l_same) (by decide +kernel)) (fun _ _ _ _ _ => pg_name (i := 2) sc_l_same.nd rfl (Or.inl rfl)) (fun _ _ _ _ _ => pts_nil) (fun _ _ _ _ _ => (pe_call G_l_same (hr.mono (Nat.le_refl _)) (by rfl) m_l_same k_l_same b_l_same .nil pass0 (pa_cons (pe_ix (show IxR _ (rIx K) from ix_seq) (pv 0) (pv 2) (fun _ _ => rfl)) (pa_cons (pe_ix (show IxR _ (rIx K) from ix_seq) (pv 1) (pv 2) (fun _ _ => rfl)) pa_nil))))) pa_nil))))))) pss_nil) (pss_cons (ps_if (PW.pt (pw_or (pt_cmpR op_isN (pv 1) pe_non (nomark _)) (pw_or1 (pt_cmpR op_isN (pv 0) pe_non (nomark _))))) (pss_one (ps_ret (pe_and (pe_cmpR op_isN (pv 1) pe_non (nomark _)) (pe_one (pe_cmpR op_isN (pv 0) pe_non (nomark _)))))) pss_nil) (pss_cons (ps_if (PW.pt (pw_or (pt_val (pe_callB call_isi (by rfl) Z.isinstance_ (by decide +kernel) (pa_cons (pv 1) (pa_cons (pe_bltn (v := .ty "bool") (by rfl) Z.bool_ (by decide +kernel) rfl) pa_nil)))) (pw_or1 (pt_val (pe_callB call_isi (by rfl) Z.isinstance_ (by decide +kernel) (pa_cons (pv 0) (pa_cons (pe_bltn (v := .ty "bool") (by rfl) Z.bool_ (by decide +kernel) rfl) pa_nil))))))) (pss_one (ps_ret (pe_and (pe_callB call_isi (by rfl) Z.isinstance_ (by decide +kernel) (pa_cons (pv 1) (pa_cons (pe_bltn (v := .ty "bool") (by rfl) Z.bool_ (by decide +kernel) rfl) pa_nil))) (pe_and (pe_callB call_isi (by rfl) Z.isinstance_ (by decide +kernel) (pa_cons (pv 0) (pa_cons (pe_bltn (v := .ty "bool") (by rfl) Z.bool_ (by decide +kernel) rfl) pa_nil))) (pe_one (pe_cmpR op_eq (pv 0) (pv 1) (nomark _))))))) pss_nil) (pss_cons (ps_if (pt_val (pe_callB call_isi (by rfl) Z.isinstance_ (by decide +kernel) (pa_cons (pv 1) (pa_cons (pe_bltn (v := .ty "int") (by rfl) Z.int_ (by decide +kernel) rfl) pa_nil)))) (pss_one (ps_ret (pe_and (pe_callB call_isi (by rfl) Z.isinstance_ (by decide +kernel) (pa_cons (pv 0) (pa_cons (pe_bltn (v := .ty "int") (by rfl) Z.int_ (by decide +kernel) rfl) pa_nil))) (pe_one (pe_cmpR op_eq (pv 0) (pv 1) (nomark _)))))) pss_nil) (pss_one (ps_ret (pe_and (pe_callB call_isi (by rfl) Z.isinstance_ (by decide +kernel) (pa_cons (pv 1) (pa_cons (pe_bltn (v := .ty "str") (by rfl) Z.str_ (by decide +kernel) rfl) pa_nil))) (pe_and (pe_callB call_isi (by rfl) Z.isinstance_ (by decide +kernel) (pa_cons (pv 0) (pa_cons (pe_bltn (v := .ty "str") (by rfl) Z.str_ (by decide +kernel) rfl) pa_nil))) (pe_one (pe_cmpR op_eq (pv 0) (pv 1) (nomark _))))))))))), ?_⟩
    refine ⟨_, rfl, (by show 2 ≤ sizeLine; decide), fun t nt => ⟨u, t, _, _, _, _, rfl, upd_same, .cons (.ty _) (.cons (.ty _) .nil), ty_same (same_new nt) ru.ty, kit_lt d nd, _, rfl, ?_⟩⟩
    have s0 : Same H (upd H t (.tup [.ty "list", .ty "tuple"])) := same_new nt
    generalize upd H t (.tup [.ty "list", .ty "tuple"]) = H1 at s0 ⊢
    have rv1 := rv.to s0
    have ru1 := ru.to s0
    by_cases hseq : tyD d = "list" ∨ tyD d = "tuple"
    · -- the kinds, the lengths, then the items
      rw [decide_eq_true hseq]
      refine iteT ?_
      refine ⟨_, rfl, v, _, _, _, _, rfl, .ty "list", rv1.ty, kit_ty (kit_list d nd), _, rfl, u, _, _, _, _, rfl, .ty "list", ru1.ty, kit_ty (kit_list d nd), rfl, _, rfl, ?_⟩
      refine iteNS rfl ?_
      refine ⟨_, rfl, v, _, _, _, _, rfl, .ty "tuple", rv1.ty, kit_ty (kit_tuple d nd), _, rfl, u, _, _, _, _, rfl, .ty "tuple", ru1.ty, kit_ty (kit_tuple d nd), rfl, _, rfl, ?_⟩
      refine iteNS rfl ?_
      obtain ⟨p, r, xs, ys, ds, rfl, rfl, hp, hr2, rx, ry, hl, lvx⟩ := da_two rv1 ru1 hseq lv
      have l1 := rx.len
      have l2 := ry.len
      refine ⟨_, rfl, p, xs, rfl, hp, _, rfl, r, ys, rfl, hr2, rfl, _, rfl, ?_⟩
      refine ite2 (fun _ => ?_) (fun z => absurd (decide_eq_true (by rw [l1, l2])) z)
      refine ⟨_, rfl, r, ys, rfl, hr2, _, rfl, by omega, by omega, fun L nL => ?_⟩
      refine lc_range (lo := 0) (n := (ys.length : Int).toNat) (fun i H2 => Same H1 H2 ∧ H2 L = some (.lst ((List.replicate i true).map V.bl))) ⟨same_new nL, upd_same⟩ ?_ ?_
      · rintro i H2 hi ⟨s2, e2⟩
        have hi' : i < ys.length := by omega
        obtain ⟨x, hx⟩ : ∃ x, xs[i]? = some x := ⟨_, List.getElem?_eq_getElem (by omega)⟩
        obtain ⟨y, hy⟩ : ∃ y, ys[i]? = some y := ⟨_, List.getElem?_eq_getElem hi'⟩
        obtain ⟨e, he, re⟩ := rx.at hx
        obtain ⟨e', he', re'⟩ := ry.at hy
        rw [he] at he'
        cases he'
        refine ⟨rfl, _, rfl, _, rfl, ix_any (sq_any s2 hp) hx ⟨_, rfl, _, rfl, ix_any (sq_any s2 hr2) hy ⟨x, y, e, rfl, re.to s2, re'.to s2, lvx e (List.mem_of_getElem? he), fun H3 s3 => ?_⟩⟩⟩
        refine ⟨_, s3 _ _ e2, slineL (by rw [List.length_map, List.length_replicate]; omega), same_mut (s2.trans s3) nL, ?_⟩
        rw [upd_same, List.replicate_succ', List.map_append]
        rfl
      · rintro H2 ⟨s2, e2⟩
        refine ⟨L, _, rfl, .inl (.inl e2), ?_⟩
        have ea : (List.replicate (ys.length : Int).toNat true).all id = true := by
          rw [List.all_eq_true]
          intro b hb
          exact (List.mem_replicate.mp hb).2
        rw [ea]
        exact q H2 (s0.trans s2)
    rw [decide_eq_false hseq]
    refine iteF ?_
    have fin := q H1 s0
    cases d with
    | list ds => exact absurd (.inl rfl) hseq
    | tuple ds => exact absurd (.inr rfl) hseq
    | dict kvs => exact absurd rfl nd
    | none =>
      cases rv1
      cases ru1
      refine ⟨_, rfl, rfl, _, rfl, iteT ?_⟩
      exact ⟨_, rfl, rfl, _, rfl, iteT ⟨_, rfl, rfl, fin⟩⟩
    | bool b =>
      have hv : v = .bl b := by cases rv; rfl
      have hu : u = .bl b := by cases ru; rfl
      subst hv hu
      refine ⟨_, rfl, rfl, _, rfl, iteF ?_⟩
      refine ⟨_, rfl, rfl, _, rfl, iteF ?_⟩
      refine ⟨_, rfl, _, _, _, _, _, rfl, .ty "bool", ru1.ty, kit_ty (kit_bool _ nd), _, rfl, iteT ?_⟩
      refine ⟨_, rfl, _, _, _, _, _, rfl, .ty "bool", ru1.ty, kit_ty (kit_bool _ nd), _, rfl, iteT ?_⟩
      refine ⟨_, rfl, _, _, _, _, _, rfl, .ty "bool", rv1.ty, kit_ty (kit_bool _ nd), _, rfl, iteT ?_⟩
      refine ⟨_, rfl, _, rfl, rfl, ?_⟩
      rw [decide_eq_true rfl]
      exact fin
    | int b =>
      have hv : v = .int b := by cases rv; rfl
      have hu : u = .int b := by cases ru; rfl
      subst hv hu
      refine ⟨_, rfl, rfl, _, rfl, iteF ?_⟩
      refine ⟨_, rfl, rfl, _, rfl, iteF ?_⟩
      refine ⟨_, rfl, _, _, _, _, _, rfl, .ty "bool", ru1.ty, kit_ty (kit_bool _ nd), _, rfl, iteF ?_⟩
      refine ⟨_, rfl, _, _, _, _, _, rfl, .ty "bool", rv1.ty, kit_ty (kit_bool _ nd), _, rfl, iteF ?_⟩
      refine ⟨_, rfl, _, _, _, _, _, rfl, .ty "int", ru1.ty, kit_ty (kit_int _ nd), _, rfl, iteT ?_⟩
      refine ⟨_, rfl, _, _, _, _, _, rfl, .ty "int", rv1.ty, kit_ty (kit_int _ nd), _, rfl, iteT ?_⟩
      refine ⟨_, rfl, _, rfl, rfl, ?_⟩
      rw [decide_eq_true rfl]
      exact fin
    | str b =>
      have hv : v = .str b := by cases rv; rfl
      have hu : u = .str b := by cases ru; rfl
      subst hv hu
      refine ⟨_, rfl, rfl, _, rfl, iteF ?_⟩
      refine ⟨_, rfl, rfl, _, rfl, iteF ?_⟩
      refine ⟨_, rfl, _, _, _, _, _, rfl, .ty "bool", ru1.ty, kit_ty (kit_bool _ nd), _, rfl, iteF ?_⟩
      refine ⟨_, rfl, _, _, _, _, _, rfl, .ty "bool", rv1.ty, kit_ty (kit_bool _ nd), _, rfl, iteF ?_⟩
      refine ⟨_, rfl, _, _, _, _, _, rfl, .ty "int", ru1.ty, kit_ty (kit_int _ nd), _, rfl, iteF ?_⟩
      refine ⟨_, rfl, _, _, _, _, _, rfl, .ty "str", ru1.ty, kit_ty (kit_str _ nd), _, rfl, iteT ?_⟩
      refine ⟨_, rfl, _, _, _, _, _, rfl, .ty "str", rv1.ty, kit_ty (kit_str _ nd), _, rfl, iteT ?_⟩
      refine ⟨_, rfl, _, rfl, rfl, ?_⟩
      rw [decide_eq_true rfl]
      exact fin
theorem has_l_same (Z : Zs mg) (A : At K mg "_law_same" s_l_same ["_law_got", "_law_due"]) : Has P w K mg base "_law_same" s_l_same 6 ["_law_got", "_law_due"] (spSm K 6) := by
  obtain ⟨f, fd, F, mg1, bd⟩ := A
  refine ⟨f, fd, ?_, mg1, F.kp, bd, F⟩
  have G0 : FnOk P w K mg base CX0 0 f fd ["_law_got", "_law_due"] (spSm K 0) := ⟨fun vs H Q E h => by obtain ⟨v, u, d, rfl, _⟩ := h; rfl, fun A outer s H args us vs Q E hr he hb hv hs => by obtain ⟨v, u, d, rfl, _, _, z, _⟩ := hs; exact z.elim⟩
  exact same_step Z F mg1 bd 5 (same_step Z F mg1 bd 4 (same_step Z F mg1 bd 3 (same_step Z F mg1 bd 2 (same_step Z F mg1 bd 1 (same_step Z F mg1 bd 0 G0)))))
end
end Th
namespace Th
open PySem PySem.Spec PyProof.Rows L2
abbrev s_l_fact : Stmt := topS 94
theorem sc_l_fact : FnScope ["_law_state", "_law_pool", "_law_x", "_law_y", "_law_way"] ["_law_state", "_law_pool"] (defScope s_l_fact) := ⟨rfl, rfl, rfl, by decide +kernel, rfl, by decide +kernel, by decide +kernel⟩
/-- a fact about names of a list, in a new tuple -/
def factOf (xs ss : List Str) : Prop := ∃ x y, x ∈ xs ∧ y ∈ xs ∧ (ss = [Str.ofString "first", x] ∨ ss = [Str.ofString "last", x] ∨ ss = [Str.ofString "before", x, y])
def spFact (K : PySem.W.Frag) : Sp := fun vs H Q _ => ∃ (D : DS) (q : Addr) (xs : List Str), vs = [.ref D.p, .ref q] ∧ Drw D H ∧ SqL K (hid D.p H) q (xs.map V.str) ∧ 0 < xs.length ∧ xs.length ≤ 60 ∧
  ∀ (r : Addr) (ss : List Str) H', factOf xs ss → H r = none → H' r = some (.tup (ss.map V.str)) → Go D H H' → Q (.ref r) H'
section
variable {P : Program} {w : World} {K : PySem.W.Frag} {mg : Str → Option Value} {base : Heap} {CB : Addr}
theorem has_l_fact (Z : Zs mg) (A : At K mg "_law_fact" s_l_fact ["_law_state", "_law_pool"]) (h_l_draw : Has P w K mg base "_law_draw" s_l_draw 1 ["_law_state", "_law_many"] (spDraw)) (h_l_pick : Has P w K mg base "_law_pick" s_l_pick 2 ["_law_state", "_law_pool"] (spPick K)) : Has P w K mg base "_law_fact" s_l_fact 3 ["_law_state", "_law_pool"] (spFact K) := by
  obtain ⟨f, fd, F, mg1, bd⟩ := A
  obtain ⟨f_l_draw, fd_l_draw, G_l_draw, m_l_draw, k_l_draw, b_l_draw, F_l_draw⟩ := h_l_draw
  obtain ⟨f_l_pick, fd_l_pick, G_l_pick, m_l_pick, k_l_pick, b_l_pick, F_l_pick⟩ := h_l_pick
  refine ⟨f, fd, ?_, mg1, F.kp, bd, F⟩
  refine F.ok sc_l_fact (fun vs H Q E h => ?_) (fun cdv A outer s H vs Q E hr h => ?_)
  · obtain ⟨D, p, xs, rfl, _⟩ := h
    rfl
  · obtain ⟨D, p, xs, rfl, d, hS, h0, h1, q⟩ := h
    refine ⟨_, (pss_cons (ps_par3 (i := 2) (j := 3) (l := 4) (by rfl) sc_l_fact.nd rfl rfl rfl (by decide) (by decide) (by decide) rfl rfl rfl (pa_cons (pe_call G_l_pick (hr.mono (by decide)) (by rfl) m_l_pick k_l_pick b_l_pick .nil pass0 (pa_cons (pv 0) (pa_cons (pv 1) pa_nil))) (pa_cons (pe_call G_l_pick (hr.mono (by decide)) (by rfl) m_l_pick k_l_pick b_l_pick .nil pass0 (pa_cons (pv 0) (pa_cons (pv 1) pa_nil))) (pa_cons (pe_call G_l_draw (hr.mono (by decide)) (by rfl) m_l_draw k_l_draw b_l_draw .nil pass0 (pa_cons (pv 0) (pa_cons pe_int pa_nil))) pa_nil))) (by rfl)) (C8.pss_cut (ps_if (PW.pt (pw_and (pt_cmpR op_eq (pv 2) (pv 3) (nomark _)) (pw_and1 (pt_cmpR op_gt (pe_call G_l_draw (hr.mono (by decide)) (by rfl) m_l_draw k_l_draw b_l_draw .nil pass0 (pa_cons (pv 0) (pa_cons pe_int pa_nil))) pe_int (nomark _))))) (pss_one (ps_set (i := 3) sc_l_fact.nd rfl (Or.inl rfl) (pe_ifExp (pt_cmpR op_ne (pv 2) (pe_ix ix_list (pv 1) pe_int (fun _ _ => rfl)) (nomark _)) (pe_ix ix_list (pv 1) pe_int (fun _ _ => rfl)) (pe_ix ix_list (pv 1) (pe_un un_neg pe_int) (fun _ _ => rfl))))) pss_nil) (pss_one (ps_ret (pe_ifExp (pt_cmpR op_eq (pv 4) pe_int (nomark _)) (pe_tup (pa_cons pe_str (pa_cons (pv 2) pa_nil))) (pe_ifExp (pt_cmpR op_eq (pv 4) pe_int (nomark _)) (pe_tup (pa_cons pe_str (pa_cons (pv 2) pa_nil))) (pe_tup (pa_cons pe_str (pa_cons (pv 2) (pa_cons (pv 3) pa_nil)))))))))), ?_⟩
    have lm : (xs.map V.str).length = xs.length := List.length_map _
    refine ⟨_, rfl, _, rfl, D, p, _, rfl, d, hS, by omega, by omega, fun i1 v1 H1 hv1 g1 => ?_⟩
    obtain ⟨x, hx, rfl⟩ := getmap hv1
    refine ⟨_, rfl, _, rfl, D, p, _, rfl, g1.st, g1.sm.seq hS, by omega, by omega, fun i2 v2 H2 hv2 g2 => ?_⟩
    obtain ⟨y, hy, rfl⟩ := getmap hv2
    refine ⟨_, rfl, D, 6, rfl, g2.st, by decide, by decide, fun way H3 w0 w1 g3 => ?_⟩
    have hxm := List.mem_of_getElem? hx
    have g4 := (g1.trans g2).trans g3
    refine ⟨_, _, _, rfl, ?_⟩
    refine ⟨fun σ H4 => ∃ y, y ∈ xs ∧ σ = [some (.ref D.p), some (.ref p), some (.str x), some (.str y), some (.int way)] ∧ Go D H H4, ?_, ?_⟩
    · have stay : ∀ H5, Go D H H5 → ∃ y', y' ∈ xs ∧ [some (V.ref D.p), some (V.ref p), some (V.str x), some (V.str y), some (V.int way)] = [some (.ref D.p), some (.ref p), some (.str x), some (.str y'), some (.int way)] ∧ Go D H H5 := fun H5 g5 => ⟨y, List.mem_of_getElem? hy, rfl, g5⟩
      refine ⟨_, rfl, _, rfl, rfl, _, rfl, ?_⟩
      refine ite2 (fun hb => ?_) (fun hb => iteF (stay _ g4))
      refine ⟨_, rfl, D, 4, rfl, g4.st, by decide, by decide, fun r H5 r0 r1 g5 => ⟨_, _, rfl, rfl, _, rfl, ?_⟩⟩
      have g6 := g4.trans g5
      have hA := hid_same.seq (g6.sm.seq hS)
      refine ite2 (fun hc => ?_) (fun hc => stay _ g6)
      obtain ⟨z, hz⟩ : ∃ z, xs[0]? = some z := ⟨_, List.getElem?_eq_getElem h0⟩
      have hz' : atI (xs.map V.str) 0 = some (.str z) := atI_of (by decide) (by show (xs.map V.str)[0]? = _; rw [List.getElem?_map, hz]; rfl)
      refine ⟨_, rfl, _, rfl, p, _, _, _, rfl, rfl, hA, hz', rfl, _, rfl, ?_⟩
      refine ite2 (fun he => ?_) (fun he => ?_)
      · exact ⟨_, rfl, p, _, _, _, rfl, rfl, hA, hz', z, List.mem_of_getElem? hz, rfl, g6⟩
      · obtain ⟨pre, w, e⟩ : ∃ pre w, xs = pre ++ [w] := ⟨xs.dropLast, xs.getLast (fun z => by rw [z] at h0; cases h0), (List.dropLast_concat_getLast _).symm⟩
        have hl : atI (xs.map V.str) (-1) = some (.str w) := by
          rw [e, List.map_append]
          exact atI_last _ _
        refine ⟨_, rfl, _, rfl, p, _, _, _, rfl, rfl, hA, hl, w, ?_, rfl, g6⟩
        rw [e]
        exact List.mem_append_right _ List.mem_cons_self
    · rintro σ H4 ⟨y, hym, rfl, g5⟩
      refine ⟨_, rfl, rfl, _, rfl, ?_⟩
      refine ite2 (fun hb => ?_) (fun hb => ?_)
      · refine ⟨_, rfl, (by show 2 ≤ sizeLine; decide), fun r nr => ?_⟩
        exact q r [Str.ofString "first", x] _ ⟨x, y, hxm, hym, .inl rfl⟩ (g5.free d nr) upd_same (g5.new nr)
      · refine ⟨_, rfl, rfl, _, rfl, ?_⟩
        refine ite2 (fun hc => ?_) (fun hc => ?_)
        · refine ⟨_, rfl, (by show 2 ≤ sizeLine; decide), fun r nr => ?_⟩
          exact q r [Str.ofString "last", x] _ ⟨x, y, hxm, hym, .inr (.inl rfl)⟩ (g5.free d nr) upd_same (g5.new nr)
        · refine ⟨_, rfl, _, rfl, (by show 3 ≤ sizeLine; decide), fun r nr => ?_⟩
          exact q r [Str.ofString "before", x, y] _ ⟨x, y, hxm, hym, .inr (.inr rfl)⟩ (g5.free d nr) upd_same (g5.new nr)
end
end Th
namespace Th
open PySem PySem.Spec PyProof.Rows L2
abbrev s_l_spoilt : Stmt := topS 95
theorem sc_l_spoilt : FnScope ["_law_state", "_law_claims", "_law_pool", "_law_labels", "_law_spot", "_law_way", "_law_strange", "_law_tag", "_law_label", "_law_new"] ["_law_state", "_law_claims", "_law_pool", "_law_labels"] (defScope s_l_spoilt) := ⟨rfl, rfl, rfl, by decide +kernel, rfl, by decide +kernel, by decide +kernel⟩
structure Bn2 (K : PySem.W.Frag) (D : DS) (H0 H : Hp) (R : Addr) (vs : List V) (ds : List PyData) (n : Nat) : Prop where
  g : Go D H0 H
  rp : R ≠ D.p
  er : H R = some (.lst vs)
  da : DaAll K (hid D.p H) vs ds
  lv : ∀ d ∈ ds, Lv 4 d
  len : ds.length ≤ n
theorem Bn2.to {K : PySem.W.Frag} {D : DS} {H0 H H' : Hp} {R : Addr} {vs : List V} {ds : List PyData} {n : Nat} (s : Bn2 K D H0 H R vs ds n) (g : Go D H H') : Bn2 K D H0 H' R vs ds n :=
  ⟨s.g.trans g, s.rp, g.old s.rp s.er, s.da.to g.sm, s.lv, s.len⟩
theorem Bn2.new {K : PySem.W.Frag} {D : DS} {H0 H : Hp} {R q : Addr} {o : HO} {vs : List V} {ds : List PyData} {n : Nat} (s : Bn2 K D H0 H R vs ds n) (h : H q = none) : Bn2 K D H0 (upd H q o) R vs ds n := s.to (Go.of s.g.st (same_new h))
theorem Bn2.up {K : PySem.W.Frag} {D : DS} {H0 H : Hp} {R : Addr} {vs : List V} {ds : List PyData} {n m : Nat} (s : Bn2 K D H0 H R vs ds n) (h : n ≤ m) : Bn2 K D H0 H R vs ds m := ⟨s.g, s.rp, s.er, s.da, s.lv, Nat.le_trans s.len h⟩
theorem Bn2.put {K : PySem.W.Frag} {D : DS} {H0 H : Hp} {R : Addr} {vs : List V} {ds : List PyData} {n m : Nat} (s : Bn2 K D H0 H R vs ds n) {q : Addr} {ws : List V} {es : List PyData} (nq : H q = none) (da : DaAll K (hid D.p H) ws es) (lv : ∀ d ∈ es, Lv 4 d) (len : es.length ≤ m) :
    Bn2 K D H0 (upd H q (.lst ws)) q ws es m :=
  ⟨s.g.new nq, s.g.st.ne_new nq, upd_same, da.to (Go.of s.g.st (same_new nq)).sm, lv, len⟩
theorem cut_sum {vs : List V} {spot : Int} (h : 0 ≤ spot) : (cutV vs none (some spot)).length + (cutV vs (some (spot + 1)) none).length ≤ vs.length := by
  unfold cutV
  rw [List.length_take, List.length_drop, List.length_take, List.length_drop, HT.sIx_none, HT.sIx_none]
  have e1 : HT.sIx vs.length vs.length (some spot) = min spot.toNat vs.length := by
    have z : spot = ((spot.toNat : Nat) : Int) := by omega
    rw [z, HT.sIx_nat, Int.toNat_natCast]
  have e2 : HT.sIx vs.length 0 (some (spot + 1)) = min (spot + 1).toNat vs.length := by
    have z : spot + 1 = (((spot + 1).toNat : Nat) : Int) := by omega
    rw [z, HT.sIx_nat, Int.toNat_natCast]
  rw [e1, e2]
  omega
theorem da_perm {K : PySem.W.Frag} {H : Hp} {vs ys : List V} (p : ys.Perm vs) : ∀ {ds : List PyData}, DaAll K H vs ds → ∃ es, DaAll K H ys es ∧ es.Perm ds := by
  induction p with
  | nil => intro ds h; exact ⟨ds, h, .refl _⟩
  | cons x _ ih =>
    intro ds h
    cases h with
    | cons h1 h2 =>
      obtain ⟨es, a, b⟩ := ih h2
      exact ⟨_, .cons h1 a, b.cons _⟩
  | swap x y l =>
    intro ds h
    cases h with
    | cons h1 h2 =>
      cases h2 with
      | cons h3 h4 => exact ⟨_, .cons h3 (.cons h1 h4), .swap _ _ _⟩
  | trans _ _ ih1 ih2 =>
    intro ds h
    obtain ⟨es, a, b⟩ := ih2 h
    obtain ⟨fs, c, e⟩ := ih1 a
    exact ⟨fs, c, e.trans b⟩

theorem lv4_snoc {a b : List PyData} (h : ∀ d ∈ a, Lv 4 d) (k : ∀ d ∈ b, Lv 4 d) : ∀ d ∈ a ++ b, Lv 4 d := fun d hd => by
  rcases List.mem_append.mp hd with m | m
  · exact h d m
  · exact k d m
theorem cut_two {vs : List V} {spot : Int} (h : 0 ≤ spot) : (cutV vs none (some spot)).length + (cutV vs (some spot) none).length = vs.length := by
  unfold cutV
  rw [List.length_take, List.length_drop, List.length_take, List.length_drop, HT.sIx_none, HT.sIx_none]
  have z : spot = ((spot.toNat : Nat) : Int) := by omega
  have e1 : HT.sIx vs.length vs.length (some spot) = min spot.toNat vs.length := by
    rw [z, HT.sIx_nat, Int.toNat_natCast]
  have e2 : HT.sIx vs.length 0 (some spot) = min spot.toNat vs.length := by
    rw [z, HT.sIx_nat, Int.toNat_natCast]
  rw [e1, e2]
  omega
theorem da_snoc {K : PySem.W.Frag} {H : Hp} {v : V} {d : PyData} : ∀ {vs : List V} {ds : List PyData}, DaAll K H vs ds → Da K H v d → DaAll K H (vs ++ [v]) (ds ++ [d])
  | _, _, .nil, r => .cons r .nil
  | _, _, .cons a b, r => .cons a (da_snoc b r)
theorem lv_pair {n : Nat} {a b : PyData} (h : Lv n a) (k : Lv n b) : Lv (n + 1) (.tuple [a, b]) := ⟨by show 2 ≤ 60; decide, fun x hx => by
  rcases List.mem_cons.mp hx with e | m
  · rw [e]; exact h
  · rw [List.mem_singleton.mp m]; exact k⟩
theorem lv_three {n : Nat} {a b c : PyData} (h : Lv n a) (k : Lv n b) (l : Lv n c) : Lv (n + 1) (.tuple [a, b, c]) := ⟨by show 3 ≤ 60; decide, fun x hx => by
  rcases List.mem_cons.mp hx with e | m
  · rw [e]; exact h
  · rcases List.mem_cons.mp m with e | m
    · rw [e]; exact k
    · rw [List.mem_singleton.mp m]; exact l⟩
theorem lv_fact {xs ss : List Str} (h : factOf xs ss) (n : ∀ x ∈ xs, isNm x = true) : Lv 3 (.tuple (ss.map .str)) := by
  obtain ⟨x, y, mx, my, e⟩ := h
  have l0 : ∀ z : Str, z = "first" ∨ z = "last" ∨ z = "before" → Lv 2 (.str z) := fun z hz => by
    rcases hz with e | e | e <;> rw [e] <;> exact lv_of 2 _ (by decide +kernel)
  rcases e with e | e | e
  · rw [e]; exact lv_pair (l0 _ (.inl rfl)) (lv_nm (n x mx))
  · rw [e]; exact lv_pair (l0 _ (.inr (.inl rfl))) (lv_nm (n x mx))
  · rw [e]; exact lv_three (l0 _ (.inr (.inr rfl))) (lv_nm (n x mx)) (lv_nm (n y my))
theorem nm3 : ∀ x ∈ ([Str.ofString "zzzzzz", Str.ofString "yyyyyy", Str.ofString "b"] : List Str), isNm x = true := by decide +kernel
/-- a list of claims, spoilt in one place -/
def spSpoilt (K : PySem.W.Frag) : Sp := fun vs H Q _ => ∃ (D : DS) (R PL LL : Addr) (ws : List V) (ds : List PyData) (xs ls : List Str) (n : Nat), vs = [.ref D.p, .ref R, .ref PL, .ref LL] ∧ Bn2 K D H H R ws ds n ∧ n ≤ 50 ∧ H PL = some (.lst (xs.map V.str)) ∧ PL ≠ D.p ∧ Nms xs ∧ 0 < xs.length ∧ xs.length ≤ 12 ∧ H LL = some (.lst (ls.map V.str)) ∧ LL ≠ D.p ∧ Nms ls ∧ 12 < ls.length ∧ ls.length ≤ 40 ∧
  ∀ (r : Addr) (us : List V) (es : List PyData) H', Bn2 K D H H' r us es (n + 1) → Q (.ref r) H'
section
variable {P : Program} {w : World} {K : PySem.W.Frag} {mg : Str → Option Value} {base : Heap} {CB : Addr}
theorem has_l_spoilt (Z : Zs mg) (A : At K mg "_law_spoilt" s_l_spoilt ["_law_state", "_law_claims", "_law_pool", "_law_labels"]) (h_l_draw : Has P w K mg base "_law_draw" s_l_draw 1 ["_law_state", "_law_many"] (spDraw)) (h_l_pick : Has P w K mg base "_law_pick" s_l_pick 2 ["_law_state", "_law_pool"] (spPick K)) (h_l_odd : Has P w K mg base "_law_odd" s_l_odd 3 ["_law_state"] (spOdd K)) (h_l_fact : Has P w K mg base "_law_fact" s_l_fact 3 ["_law_state", "_law_pool"] (spFact K)) : Has P w K mg base "_law_spoilt" s_l_spoilt 4 ["_law_state", "_law_claims", "_law_pool", "_law_labels"] (spSpoilt K) := by
  obtain ⟨f, fd, F, mg1, bd⟩ := A
  obtain ⟨f_l_draw, fd_l_draw, G_l_draw, m_l_draw, k_l_draw, b_l_draw, F_l_draw⟩ := h_l_draw
  obtain ⟨f_l_pick, fd_l_pick, G_l_pick, m_l_pick, k_l_pick, b_l_pick, F_l_pick⟩ := h_l_pick
  obtain ⟨f_l_odd, fd_l_odd, G_l_odd, m_l_odd, k_l_odd, b_l_odd, F_l_odd⟩ := h_l_odd
  obtain ⟨f_l_fact, fd_l_fact, G_l_fact, m_l_fact, k_l_fact, b_l_fact, F_l_fact⟩ := h_l_fact
  refine ⟨f, fd, ?_, mg1, F.kp, bd, F⟩
  refine F.ok sc_l_spoilt (fun vs H Q E h => ?_) (fun cdv A outer s H vs Q E hr h => ?_)
  · obtain ⟨D, R, PL, LL, ws, ds, xs, ls, n, rfl, _⟩ := h
    rfl
  · obtain ⟨D, R, PL, LL, ws, ds, xs, ls, n, rfl, s0, n50, ePL, pPL, nmx, l0, l12, eLL, pLL, nml, ll12, ll40, q⟩ := h
    refine ⟨_, (pss_cons (ps_par (i := 4) (j := 5) (by rfl) sc_l_spoilt.nd rfl rfl (by decide) rfl rfl (pa_cons (pe_call G_l_draw (hr.mono (by decide)) (by rfl) m_l_draw k_l_draw b_l_draw .nil pass0 (pa_cons (pv 0) (pa_cons (pe_op op_add (pe_callB call_len_seq (by rfl) Z.len_ (by decide +kernel) (pa_cons (pv 1) pa_nil)) pe_int) pa_nil))) (pa_cons (pe_call G_l_draw (hr.mono (by decide)) (by rfl) m_l_draw k_l_draw b_l_draw .nil pass0 (pa_cons (pv 0) (pa_cons pe_int pa_nil))) pa_nil)) (by rfl)) (pss_cons (ps_set (i := 6) sc_l_spoilt.nd rfl (Or.inl rfl) (pe_call G_l_pick (hr.mono (by decide)) (by rfl) m_l_pick k_l_pick b_l_pick .nil pass0 (pa_cons (pv 0) (pa_cons (pe_lc (own := [("_law_tag", 7)]) (g := gName 7) (by rfl) sc_l_spoilt.nd (pi_list (pe_op op_cat (pv 3) (pe_lst (pa_cons pe_str (pa_cons pe_str (pa_cons pe_str pa_nil)))))) (blkOk_by (own := [("_law_tag", 7)]) (N := ["_law_state", "_law_claims", "_law_pool", "_law_labels", "_law_spot", "_law_way", "_law_strange", "_law_tag", "_law_label", "_law_new"]) (sc := defScope s_l_spoilt) (by decide +kernel)) (fun _ _ _ _ _ => pg_name (i := 7) sc_l_spoilt.nd rfl (Or.inl rfl)) (fun _ _ _ _ _ => (pts_one (pt_cmpR (show OpR _ (compareOp .NotIn) (rIn K true) from op_notIn_seq) (pv 7) (pv 2) (by rfl)))) (fun _ _ _ _ _ => (pv 7))) pa_nil)))) (pss_cons (ps_set (i := 8) sc_l_spoilt.nd rfl (Or.inl rfl) (pe_call G_l_pick (hr.mono (by decide)) (by rfl) m_l_pick k_l_pick b_l_pick .nil pass0 (pa_cons (pv 0) (pa_cons (pv 3) pa_nil)))) (pss_cons (ps_set (i := 9) sc_l_spoilt.nd rfl (Or.inl rfl) (pe_ix ix_list (pe_lst (pa_cons (pe_call G_l_odd (hr.mono (by decide)) (by rfl) m_l_odd k_l_odd b_l_odd .nil pass0 (pa_cons (pv 0) pa_nil)) (pa_cons (pe_tup (pa_cons (pv 8) (pa_cons (pe_call G_l_odd (hr.mono (by decide)) (by rfl) m_l_odd k_l_odd b_l_odd .nil pass0 (pa_cons (pv 0) pa_nil)) pa_nil))) (pa_cons (pe_tup (pa_cons (pv 8) (pa_cons (pe_tup (pa_cons pe_str (pa_cons (pe_call G_l_pick (hr.mono (by decide)) (by rfl) m_l_pick k_l_pick b_l_pick .nil pass0 (pa_cons (pv 0) (pa_cons (pv 2) pa_nil))) (pa_cons (pv 6) pa_nil)))) pa_nil))) (pa_cons (pe_tup (pa_cons (pv 8) (pa_cons (pe_tup (pa_cons pe_str (pa_cons (pv 6) (pa_cons (pe_call G_l_pick (hr.mono (by decide)) (by rfl) m_l_pick k_l_pick b_l_pick .nil pass0 (pa_cons (pv 0) (pa_cons (pv 2) pa_nil))) pa_nil)))) pa_nil))) (pa_cons (pe_tup (pa_cons (pv 8) (pa_cons (pe_tup (pa_cons pe_str (pa_cons (pv 6) pa_nil))) pa_nil))) (pa_cons (pe_tup (pa_cons (pv 8) (pa_cons (pe_call G_l_fact (hr.mono (by decide)) (by rfl) m_l_fact k_l_fact b_l_fact .nil pass0 (pa_cons (pv 0) (pa_cons (pv 2) pa_nil))) pa_nil))) pa_nil))))))) (pv 5) (fun _ _ => rfl))) (pss_one (ps_ret (pe_op op_cat (pe_op op_cat (pe_slice sl_list (pv 1) po_none (po_some (pv 4))) (pe_lst (pa_cons (pv 9) pa_nil))) (pe_slice sl_list (pv 1) (po_some (pe_op op_add (pv 4) (pe_ifExp (pt_cmpR op_eq (pe_call G_l_draw (hr.mono (by decide)) (by rfl) m_l_draw k_l_draw b_l_draw .nil pass0 (pa_cons (pv 0) (pa_cons pe_int pa_nil))) pe_int (nomark _)) pe_int pe_int))) po_none)))))))), ?_⟩
    have big : ∀ n : Nat, n ≤ 1000 → n ≤ sizeLine := fun n hn => sline (by omega)
    have l1 := s0.da.len
    have l2 := s0.len
    have lxm : (xs.map V.str).length = xs.length := List.length_map _
    have llm : (ls.map V.str).length = ls.length := List.length_map _
    refine ⟨_, rfl, _, rfl, R, _, rfl, .inl (.inl (.inl s0.er)), _, _, rfl, rfl, D, _, rfl, s0.g.st, by omega, by omega, fun spot H1 sp0 sp1 g1 => ?_⟩
    refine ⟨_, rfl, D, 6, rfl, g1.st, by decide, by decide, fun way H2 w0 w1 g2 => ⟨_, _, rfl, ?_⟩⟩
    have g12 := g1.trans g2
    have eLL2 := g12.old pLL eLL
    have ePL2 := g12.old pPL ePL
    -- a stranger
    refine ⟨_, rfl, _, rfl, by show 3 ≤ sizeLine; decide, fun Z nZ => ?_⟩
    have g3 := g12.new (o := .lst [.str "zzzzzz", .str "yyyyyy", .str "b"]) nZ
    have eLL3 := kp (u := .lst [.str "zzzzzz", .str "yyyyyy", .str "b"]) eLL2 nZ
    have ePL3 := kp (u := .lst [.str "zzzzzz", .str "yyyyyy", .str "b"]) ePL2 nZ
    refine ⟨LL, Z, _, _, rfl, rfl, eLL3, upd_same, sline (by show (ls.map V.str).length + 3 ≤ 100000; omega), fun C nC => ?_⟩
    have eall : ls.map V.str ++ [V.str "zzzzzz", .str "yyyyyy", .str "b"] = (ls ++ [Str.ofString "zzzzzz", Str.ofString "yyyyyy", Str.ofString "b"]).map V.str := by rw [List.map_append]; rfl
    rw [eall]
    have nmall : ∀ x ∈ ls ++ [Str.ofString "zzzzzz", Str.ofString "yyyyyy", Str.ofString "b"], isNm x = true := fun x hx => by
      rcases List.mem_append.mp hx with m | m
      · exact nml.2 x m
      · exact nm3 x m
    have lall : (ls ++ [Str.ofString "zzzzzz", Str.ofString "yyyyyy", Str.ofString "b"]).length = ls.length + 3 := by rw [List.length_append]; rfl
    have hne : 0 < ((ls ++ [Str.ofString "zzzzzz", Str.ofString "yyyyyy", Str.ofString "b"]).filter fun s => !decide (s ∈ xs)).length := by
      obtain ⟨s, r, e⟩ := spare_left (xs := xs) nml.1 (by omega)
      rw [List.filter_append, e]
      exact Nat.succ_pos _
    generalize ls ++ [Str.ofString "zzzzzz", Str.ofString "yyyyyy", Str.ofString "b"] = al at nmall lall hne
    have g4 := g3.new (o := .lst (al.map V.str)) nC
    have eC : (upd (upd H2 Z (.lst [.str "zzzzzz", .str "yyyyyy", .str "b"])) C (.lst (al.map V.str))) C = some (.lst (al.map V.str)) := upd_same
    have ePL4 := kp (u := .lst (al.map V.str)) ePL3 nC
    generalize upd (upd H2 Z (.lst [.str "zzzzzz", .str "yyyyyy", .str "b"])) C (.lst (al.map V.str)) = H4 at g4 eC ePL4 ⊢
    refine ⟨C, rfl, ⟨_, .inl (.inl eC)⟩, fun L nL => ?_⟩
    have pL := g4.st.ne_new nL
    refine lc_list (K := K) (a := C) (xs := al.map V.str) (fun i H' => Same H4 H' ∧ H' L = some (.lst (((al.take i).filter fun s => !decide (s ∈ xs)).map V.str))) ⟨same_new nL, upd_same⟩ (fun i H' _ z => .inl (.inl (z.1 _ _ eC))) ?_ ?_
    · rintro i y H' hi ⟨s5, e5⟩
      obtain ⟨x, hx, rfl⟩ := getmap hi
      have hxl := lt_of_get hx
      refine ⟨rfl, _, rfl, _, rfl, PL, _, rfl, .inl (.inl (.inl (s5 _ _ ePL4))), rfl, flatS _, _, rfl, ?_⟩
      rw [inS]
      have step : (al.take (i + 1)).filter (fun s => !decide (s ∈ xs)) = (al.take i).filter (fun s => !decide (s ∈ xs)) ++ (if x ∈ xs then [] else [x]) := by
        rw [List.take_add_one, hx, List.filter_append]
        by_cases hm : x ∈ xs
        · simp [hm]
        · simp [hm]
      refine ite2 (fun hm => ?_) (fun hm => ?_)
      · have hm' : x ∉ xs := by simpa using hm
        refine ⟨_, rfl, _, e5, slineL (by rw [List.length_map]; have := List.length_filter_le (fun s => !decide (s ∈ xs)) (al.take i); rw [List.length_take] at this; omega), same_mut s5 nL, ?_⟩
        rw [upd_same, step, if_neg hm', List.map_append]
        rfl
      · have hm' : x ∈ xs := by simpa using hm
        exact ⟨s5, by rw [e5, step, if_pos hm', List.append_nil]⟩
    rintro H5 ⟨s5, e5⟩
    rw [List.length_map, List.take_length] at e5
    have g5 := g4.trans (Go.of g4.st s5)
    have lfil : (al.filter fun s => !decide (s ∈ xs)).length ≤ 43 := by
      have := List.length_filter_le (fun s => !decide (s ∈ xs)) al
      omega
    refine ⟨D, L, _, rfl, g5.st, sqh pL e5, by rw [List.length_map]; exact hne, by rw [List.length_map]; omega, fun i v H6 hv g6 => ?_⟩
    obtain ⟨st, hst, rfl⟩ := getmap hv
    have nst : isNm st = true := nmall st (List.mem_filter.mp (List.mem_of_getElem? hst)).1
    have g7 := g5.trans g6
    have ePL7 := g6.old pPL (s5 _ _ ePL4)
    have eLL7 := g7.old pLL eLL
    clear e5 hne nmall g5 g6 eC ePL4 hv g4 g3 eLL3 ePL3 eall lall hst
    -- a label
    refine ⟨_, rfl, _, rfl, D, LL, _, rfl, g7.st, sqh pLL eLL7, by omega, by omega, fun i2 v2 H8 hv2 g8 => ?_⟩
    obtain ⟨lb, hlb, rfl⟩ := getmap hv2
    have nlb : isNm lb = true := nml.2 lb (List.mem_of_getElem? hlb)
    have g9 := g7.trans g8
    -- the new ones
    refine ⟨_, rfl, D, rfl, g9.st, fun w1 d1 K1 hd1 a1 r1 => ?_⟩
    have gA := g9.trans a1
    have acc1 : DaAll K (hid D.p K1) [w1] [d1] := .cons r1 .nil
    refine ⟨_, rfl, _, rfl, D, rfl, gA.st, fun w2 d2 K2 hd2 a2 r2 => ⟨by show 2 ≤ sizeLine; decide, fun T2 n2 => ?_⟩⟩
    have gB := (gA.trans a2)
    have b2 := Go.of gB.st (same_new (o := .tup [.str lb, w2]) n2)
    have r2' : Da K (hid D.p (upd K2 T2 (.tup [.str lb, w2]))) (.ref T2) (.tuple [.str lb, d2]) := Da.newT (by rw [hid_ne (gB.st.ne_new n2)]; exact upd_same) (.cons (.str _) (.cons (r2.to b2.sm) .nil))
    have acc2 := da_snoc ((acc1.to a2.sm).to b2.sm) r2'
    have gC := gB.trans b2
    generalize upd K2 T2 (.tup [.str lb, w2]) = K3 at acc2 gC ⊢
    refine ⟨_, rfl, _, rfl, _, rfl, D, PL, _, rfl, gC.st, sqh pPL (gC.old pPL ePL), by omega, by omega, fun i3 v3 K4 hv3 a3 => ?_⟩
    obtain ⟨x3, hx3, rfl⟩ := getmap hv3
    have nx3 := nmx.2 x3 (List.mem_of_getElem? hx3)
    have gD := gC.trans a3
    refine ⟨_, rfl, by show 3 ≤ sizeLine; decide, fun T3 n3 => ⟨by show 2 ≤ sizeLine; decide, fun U3 m3 => ?_⟩⟩
    have b3 := Go.of gD.st (same_new (o := .tup [.str "before", .str x3, .str st]) n3)
    have gE := gD.trans b3
    have c3 := Go.of gE.st (same_new (o := .tup [.str lb, .ref T3]) m3)
    have r3 : Da K (hid D.p (upd (upd K4 T3 (.tup [.str "before", .str x3, .str st])) U3 (.tup [.str lb, .ref T3]))) (.ref U3) (.tuple [.str lb, .tuple [.str "before", .str x3, .str st]]) :=
      Da.newT (by rw [hid_ne (gE.st.ne_new m3)]; exact upd_same) (.cons (.str _) (.cons ((Da.newT (K := K) (q := T3) (xs := [.str "before", .str x3, .str st]) (ds := [.str "before", .str x3, .str st]) (by rw [hid_ne (gD.st.ne_new n3)]; exact upd_same) (.cons (.str _) (.cons (.str _) (.cons (.str _) .nil)))).to c3.sm) .nil))
    have acc3 := da_snoc (((acc2.to a3.sm).to b3.sm).to c3.sm) r3
    have gF := gE.trans c3
    generalize upd (upd K4 T3 (.tup [.str "before", .str x3, .str st])) U3 (.tup [.str lb, .ref T3]) = K5 at acc3 gF ⊢
    refine ⟨_, rfl, _, rfl, _, rfl, _, rfl, D, PL, _, rfl, gF.st, sqh pPL (gF.old pPL ePL), by omega, by omega, fun i4 v4 K6 hv4 a4 => ?_⟩
    obtain ⟨x4, hx4, rfl⟩ := getmap hv4
    have nx4 := nmx.2 x4 (List.mem_of_getElem? hx4)
    have gG := gF.trans a4
    refine ⟨by show 3 ≤ sizeLine; decide, fun T4 n4 => ⟨by show 2 ≤ sizeLine; decide, fun U4 m4 => ?_⟩⟩
    have b4 := Go.of gG.st (same_new (o := .tup [.str "before", .str st, .str x4]) n4)
    have gH := gG.trans b4
    have c4 := Go.of gH.st (same_new (o := .tup [.str lb, .ref T4]) m4)
    have r4 : Da K (hid D.p (upd (upd K6 T4 (.tup [.str "before", .str st, .str x4])) U4 (.tup [.str lb, .ref T4]))) (.ref U4) (.tuple [.str lb, .tuple [.str "before", .str st, .str x4]]) :=
      Da.newT (by rw [hid_ne (gH.st.ne_new m4)]; exact upd_same) (.cons (.str _) (.cons ((Da.newT (K := K) (q := T4) (xs := [.str "before", .str st, .str x4]) (ds := [.str "before", .str st, .str x4]) (by rw [hid_ne (gG.st.ne_new n4)]; exact upd_same) (.cons (.str _) (.cons (.str _) (.cons (.str _) .nil)))).to c4.sm) .nil))
    have acc4 := da_snoc (((acc3.to a4.sm).to b4.sm).to c4.sm) r4
    have gI := gH.trans c4
    generalize upd (upd K6 T4 (.tup [.str "before", .str st, .str x4])) U4 (.tup [.str lb, .ref T4]) = K7 at acc4 gI ⊢
    refine ⟨_, rfl, _, rfl, by show 2 ≤ sizeLine; decide, fun T5 n5 => ⟨by show 2 ≤ sizeLine; decide, fun U5 m5 => ?_⟩⟩
    have b5 := Go.of gI.st (same_new (o := .tup [.str "first", .str st]) n5)
    have gJ := gI.trans b5
    have c5 := Go.of gJ.st (same_new (o := .tup [.str lb, .ref T5]) m5)
    have r5 : Da K (hid D.p (upd (upd K7 T5 (.tup [.str "first", .str st])) U5 (.tup [.str lb, .ref T5]))) (.ref U5) (.tuple [.str lb, .tuple [.str "first", .str st]]) :=
      Da.newT (by rw [hid_ne (gJ.st.ne_new m5)]; exact upd_same) (.cons (.str _) (.cons ((Da.newT (K := K) (q := T5) (xs := [.str "first", .str st]) (ds := [.str "first", .str st]) (by rw [hid_ne (gI.st.ne_new n5)]; exact upd_same) (.cons (.str _) (.cons (.str _) .nil))).to c5.sm) .nil))
    have acc5 := da_snoc ((acc4.to b5.sm).to c5.sm) r5
    have gK := gJ.trans c5
    generalize upd (upd K7 T5 (.tup [.str "first", .str st])) U5 (.tup [.str lb, .ref T5]) = K8 at acc5 gK ⊢
    refine ⟨_, rfl, _, rfl, _, rfl, D, PL, xs, rfl, gK.st, sqh pPL (gK.old pPL ePL), l0, by omega, fun FA ss K9 fo nFA eFA a6 => ⟨by show 2 ≤ sizeLine; decide, fun U6 m6 => ?_⟩⟩
    have gL := gK.trans a6
    have c6 := Go.of gL.st (same_new (o := .tup [.str lb, .ref FA]) m6)
    have r6 : Da K (hid D.p (upd K9 U6 (.tup [.str lb, .ref FA]))) (.ref U6) (.tuple [.str lb, .tuple (ss.map .str)]) :=
      Da.newT (by rw [hid_ne (gL.st.ne_new m6)]; exact upd_same) (.cons (.str _) (.cons ((Da.newT (K := K) (q := FA) (by rw [hid_ne (gK.st.ne_new nFA)]; exact eFA) (DaAll.strs ss)).to c6.sm) .nil))
    have acc6 := da_snoc ((acc5.to a6.sm).to c6.sm) r6
    have gM := gL.trans c6
    generalize upd K9 U6 (.tup [.str lb, .ref FA]) = KA at acc6 gM ⊢
    refine ⟨by show 6 ≤ sizeLine; decide, fun N nN => ?_⟩
    have lvs6 : ∀ e ∈ ([d1] ++ [PyData.tuple [.str lb, d2]] ++ [PyData.tuple [.str lb, .tuple [.str "before", .str x3, .str st]]] ++ [PyData.tuple [.str lb, .tuple [.str "before", .str st, .str x4]]] ++ [PyData.tuple [.str lb, .tuple [.str "first", .str st]]] ++ [PyData.tuple [.str lb, .tuple (ss.map .str)]]), Lv 4 e := by
      have lb3 : Lv 3 (.str lb) := lv_nm nlb
      have b2' : Lv 2 (.str "before") := lv_of 2 _ (by decide +kernel)
      have f2 : Lv 2 (.str "first") := lv_of 2 _ (by decide +kernel)
      refine lv4_snoc (lv4_snoc (lv4_snoc (lv4_snoc (lv4_snoc (lv_one ((odds_lv d1 hd1).up.up)) (lv_one (lv_pair lb3 (odds_lv d2 hd2).up))) (lv_one (lv_pair lb3 (lv_three b2' (lv_nm nx3) (lv_nm nst))))) (lv_one (lv_pair lb3 (lv_three b2' (lv_nm nst) (lv_nm nx4))))) (lv_one (lv_pair lb3 (lv_pair f2 (lv_nm nst))))) (lv_one (lv_pair lb3 (lv_fact fo nmx.2)))
    have acc7 := acc6.to (Go.of gM.st (same_new (o := .lst [w1, .ref T2, .ref U3, .ref U4, .ref U5, .ref U6]) nN)).sm
    have gN := gM.trans (Go.of gM.st (same_new (o := .lst [w1, .ref T2, .ref U3, .ref U4, .ref U5, .ref U6]) nN))
    obtain ⟨vn, hvn⟩ : ∃ vn, ([w1, .ref T2, .ref U3, .ref U4, .ref U5, .ref U6] : List V)[way.toNat]? = some vn := ⟨_, List.getElem?_eq_getElem (by show way.toNat < 6; omega)⟩
    obtain ⟨dn, hdn, rn⟩ := acc7.at (i := way.toNat) hvn
    have ln := lvs6 dn (List.mem_of_getElem? hdn)
    refine ⟨_, rfl, N, _, way, vn, rfl, rfl, .inl (.inl upd_same), atI_of w0 hvn, ?_⟩
    generalize upd KA N (.lst [w1, .ref T2, .ref U3, .ref U4, .ref U5, .ref U6]) = KB at gN rn ⊢
    have s := s0.to gN
    clear acc1 acc2 acc3 acc4 acc5 acc6 acc7 gM gL gK gJ gI gH gG gF gE gD gC gB gA r1 r2 r2' r3 r4 r5 r6 lvs6 eLL7 ePL7
    refine ⟨_, rfl, _, rfl, spot, rfl, R, ws, rfl, .inl (.inl s.er), fun q1 n1 => ?_⟩
    have s3 := s.new (o := .lst (cutV ws none (some spot))) n1
    have r3 := rn.to (Go.of s.g.st (same_new (o := .lst (cutV ws none (some spot))) n1)).sm
    refine ⟨_, rfl, by show 1 ≤ sizeLine; decide, fun q2 n2 => ?_⟩
    have s7 := s3.new (o := .lst [vn]) n2
    have r7 := r3.to (Go.of s3.g.st (same_new (o := .lst [vn]) n2)).sm
    have eq1 := kp (u := .lst [vn]) (upd_same (H := KB) (a := q1) (o := .lst (cutV ws none (some spot)))) n2
    have c1 := cutV_length ws none (some spot)
    refine ⟨q1, q2, _, _, rfl, rfl, eq1, upd_same, big _ (by show (cutV ws none (some spot)).length + 1 ≤ 1000; omega), fun q3 n3 => ?_⟩
    have s8 := s7.new (o := .lst (cutV ws none (some spot) ++ [vn])) n3
    have rb := r7.to (Go.of s7.g.st (same_new (o := .lst (cutV ws none (some spot) ++ [vn])) n3)).sm
    have e3 : (upd (upd (upd KB q1 (.lst (cutV ws none (some spot)))) q2 (.lst [vn])) q3 (.lst (cutV ws none (some spot) ++ [vn]))) q3 = some (.lst (cutV ws none (some spot) ++ [vn])) := upd_same
    have p3 := s7.g.st.ne_new n3
    generalize upd (upd (upd KB q1 (.lst (cutV ws none (some spot)))) q2 (.lst [vn])) q3 (.lst (cutV ws none (some spot) ++ [vn])) = KC at s8 rb e3 ⊢
    refine ⟨_, rfl, _, rfl, _, rfl, D, 2, rfl, s8.g.st, by decide, by decide, fun bit KD _ _ gbit => ⟨rfl, _, rfl, ite2 (fun _ => ?_) (fun _ => ?_)⟩⟩
    · have s8 := s8.to gbit
      have rb := rb.to gbit.sm
      have e3 := gbit.old p3 e3
      refine ⟨_, _, rfl, rfl, spot + 1, rfl, R, ws, rfl, .inl (.inl s8.er), fun q4 n4 => ?_⟩
      have s9 := s8.new (o := .lst (cutV ws (some (spot + 1)) none)) n4
      have e34 := kp (u := .lst (cutV ws (some (spot + 1)) none)) e3 n4
      refine ⟨q3, q4, _, _, rfl, rfl, e34, upd_same, big _ (by rw [List.length_append]; show (cutV ws none (some spot)).length + 1 + (cutV ws (some (spot + 1)) none).length ≤ 1000; have := cutV_length ws (some (spot + 1)) none; omega), fun q5 n5 => ?_⟩
      obtain ⟨es1, d1', m1, k1⟩ := s9.da.cut none (some spot)
      obtain ⟨es2, d2', m2, k2⟩ := s9.da.cut (some (spot + 1)) none
      have rc := rb.to (Go.of s8.g.st (same_new (o := .lst (cutV ws (some (spot + 1)) none)) n4)).sm
      have rr : DaAll K _ [vn] [dn] := .cons rc .nil
      have csum := cut_sum (vs := ws) sp0
      have k3 := d1'.len
      have k4 := d2'.len
      exact q q5 _ _ _ (s9.put n5 ((d1'.app rr).app d2') (lv4_snoc (lv4_snoc (fun e he => s.lv e (m1 e he)) (lv_one ln)) (fun e he => s.lv e (m2 e he))) (by rw [List.length_append, List.length_append]; show es1.length + 1 + es2.length ≤ n + 1; omega))
    · have s8 := s8.to gbit
      have rb := rb.to gbit.sm
      have e3 := gbit.old p3 e3
      refine ⟨_, _, rfl, rfl, spot + 0, rfl, R, ws, rfl, .inl (.inl s8.er), fun q4 n4 => ?_⟩
      have s9 := s8.new (o := .lst (cutV ws (some (spot + 0)) none)) n4
      have e34 := kp (u := .lst (cutV ws (some (spot + 0)) none)) e3 n4
      refine ⟨q3, q4, _, _, rfl, rfl, e34, upd_same, big _ (by rw [List.length_append]; show (cutV ws none (some spot)).length + 1 + (cutV ws (some (spot + 0)) none).length ≤ 1000; have := cutV_length ws (some (spot + 0)) none; omega), fun q5 n5 => ?_⟩
      obtain ⟨es1, d1', m1, k1⟩ := s9.da.cut none (some spot)
      obtain ⟨es2, d2', m2, k2⟩ := s9.da.cut (some (spot + 0)) none
      have rc := rb.to (Go.of s8.g.st (same_new (o := .lst (cutV ws (some (spot + 0)) none)) n4)).sm
      have rr : DaAll K _ [vn] [dn] := .cons rc .nil
      have csum := (show (cutV ws none (some spot)).length + (cutV ws (some (spot + 0)) none).length = ws.length from by rw [Int.add_zero]; exact cut_two (vs := ws) sp0)
      have k3 := d1'.len
      have k4 := d2'.len
      exact q q5 _ _ _ (s9.put n5 ((d1'.app rr).app d2') (lv4_snoc (lv4_snoc (fun e he => s.lv e (m1 e he)) (lv_one ln)) (fun e he => s.lv e (m2 e he))) (by rw [List.length_append, List.length_append]; show es1.length + 1 + es2.length ≤ n + 1; omega))
end
end Th
namespace Th
open PySem PySem.Spec PyProof.Rows L2
abbrev s_l_is_name : Stmt := topS 91
theorem sc_l_is_name : FnScope ["_law_x", "_law_sign"] ["_law_x"] (defScope s_l_is_name) := ⟨rfl, rfl, rfl, by decide +kernel, rfl, by decide +kernel, by decide +kernel⟩

section
variable {P : Program} {w : World} {K : PySem.W.Frag} {mg : Str → Option Value} {base : Heap} {CB : Addr}
theorem has_l_is_name (n : Nat) (Z : Zs mg) (A : At K mg "_law_is_name" s_l_is_name ["_law_x"]) (h_l_letters : Has P w K mg base "_law_letters" s_l_letters 1 [] (spLetters)) : Has P w K mg base "_law_is_name" s_l_is_name 2 ["_law_x"] (spJ K n nmD) := by
  obtain ⟨f, fd, F, mg1, bd⟩ := A
  obtain ⟨f_l_letters, fd_l_letters, G_l_letters, m_l_letters, k_l_letters, b_l_letters, F_l_letters⟩ := h_l_letters
  refine ⟨f, fd, ?_, mg1, F.kp, bd, F⟩
  refine F.ok sc_l_is_name (fun vs H Q E h => ?_) (fun cdv A outer s H vs Q E hr h => ?_)
  · obtain ⟨v, d, rfl, _⟩ := h
    rfl
  · obtain ⟨v, d, rfl, r, lv, q⟩ := h
    refine ⟨_, (pss_one (ps_ret (pe_and (pe_callB call_isi (by rfl) Z.isinstance_ (by decide +kernel) (pa_cons (pv 0) (pa_cons (pe_bltn (v := .ty "str") (by rfl) Z.str_ (by decide +kernel) rfl) pa_nil))) (pe_and (pe_cmpR op_in_seq (pe_callB call_len_str (by rfl) Z.len_ (by decide +kernel) (pa_cons (pv 0) pa_nil)) (pe_tup (pa_cons pe_int (pa_cons pe_int (pa_cons pe_int (pa_cons pe_int (pa_cons pe_int (pa_cons pe_int pa_nil))))))) (by rfl)) (pe_one (pe_callB (cr_all rfl) (by rfl) Z.all_ (by decide +kernel) (pa_cons (pe_lc (own := [("_law_sign", 1)]) (g := gName 1) (by rfl) sc_l_is_name.nd (pi_str (pv 0)) (blkOk_by (own := [("_law_sign", 1)]) (N := ["_law_x", "_law_sign"]) (sc := defScope s_l_is_name) (by decide +kernel)) (fun _ _ _ _ _ => pg_name (i := 1) sc_l_is_name.nd rfl (Or.inl rfl)) (fun _ _ _ _ _ => pts_nil) (fun _ _ _ _ _ => (pe_cmpR op_in_sign (pv 1) (pe_call0 G_l_letters (hr.mono (by decide)) (by rfl) m_l_letters k_l_letters b_l_letters .nil pass0) (by rfl)))) pa_nil))))))), ?_⟩
    refine ⟨_, rfl, v, _, _, _, _, rfl, .ty "str", r.ty, kit_ty (kit_str d r.nodict), _, rfl, ?_⟩
    cases d with
    | str x =>
      have hv : v = .str x := by
        cases r
        rfl
      subst hv
      have hx : x.length ≤ 100000 := by
        cases n <;> exact lv.1
      refine iteT ?_
      refine ⟨_, rfl, _, rfl, sline hx, (by show 6 ≤ sizeLine; decide), fun u nu => ?_⟩
      refine ⟨u, _, rfl, .inr (.inl (.inl upd_same)), rfl, rfl, _, rfl, ?_⟩
      have ein : inV (.int (x.length : Int)) [V.int 1, .int 2, .int 3, .int 4, .int 5, .int 6] = (decide (1 ≤ x.length) && decide (x.length ≤ 6)) := by
        unfold inV
        rw [Bool.eq_iff_iff]
        simp only [List.any_cons, List.any_nil, Bool.or_false, Bool.or_eq_true, Bool.and_eq_true, decide_eq_true_eq, eqV, beq_iff_eq]
        omega
      have s1 := same_new (o := .tup [V.int 1, .int 2, .int 3, .int 4, .int 5, .int 6]) nu
      rw [ein, if_neg Bool.false_ne_true]
      refine ite2 (fun h1 => ?_) (fun h1 => ?_)
      · refine ⟨_, rfl, x, rfl, fun L nL => ?_⟩
        have s2' := s1.trans (same_new (o := .lst []) nL)
        refine lc_it (walk_str (z := x)) (fun i H2 => Same H H2 ∧ H2 L = some (.lst (((cs x).take i).map fun c => V.bl (decide (c ∈ cs abc))))) ⟨s2', upd_same⟩ (fun _ _ _ _ => trivial) ?_ ?_
        · rintro i y H2 H3 hi ⟨s2, e2⟩ ⟨rfl, c, hc, rfl⟩
          have hc' : (cs x)[i]? = some c := by
            unfold cs
            rw [Array.getElem?_toList]
            exact hc
          have hl := lt_of_get hc'
          rw [← cs_len] at hl
          refine ⟨rfl, _, rfl, rfl, c, abc, rfl, rfl, _, e2, slineL ?_, ?_⟩
          · rw [List.length_map, List.length_take]
            omega
          · refine ⟨same_mut s2 (s1.free nL), ?_⟩
            rw [upd_same, take_succ_map hc']
            rfl
        · rintro H2 ⟨s2, e2⟩
          have e3 : (cs x).take x.cps.size = cs x := List.take_of_length_le (by rw [← cs_len]; exact Nat.le_refl _)
          rw [e3] at e2
          refine ⟨L, (cs x).map fun c => decide (c ∈ cs abc), rfl, .inl (.inl (by rw [e2, List.map_map]; rfl)), ?_⟩
          have e4 : ((cs x).map fun c => decide (c ∈ cs abc)).all id = isNm x := by
            unfold isNm
            rw [h1, List.all_map]
            rfl
          rw [e4]
          exact q H2 s2
      · have e4 : isNm x = false := by
          unfold isNm
          cases z : (decide (1 ≤ x.length) && decide (x.length ≤ 6)) with
          | true => exact absurd z h1
          | false => rfl
        have q2 := q _ s1
        show Q (.bl false) _
        rw [show nmD (.str x) = false from e4] at q2
        exact q2
    | _ => exact iteF (q H (Same.refl H))
end
end Th
namespace Th
open PySem PySem.Spec PyProof.Rows L2
abbrev s_p_is_name : Stmt := topS 17
theorem sc_p_is_name : FnScope ["value", "sign"] ["value"] (defScope s_p_is_name) := ⟨rfl, rfl, rfl, by decide +kernel, rfl, by decide +kernel, by decide +kernel⟩

section
variable {P : Program} {w : World} {K : PySem.W.Frag} {mg : Str → Option Value} {base : Heap} {CB : Addr}
theorem has_p_is_name (n : Nat) (Z : Zs mg) (gL : ∃ t, mg "_LETTERS" = some (.str abc t)) (gM : ∃ t, mg "_MOST_LETTERS" = some (.int 6 t)) (A : At K mg "is_name" s_p_is_name ["value"]) : Has P w K mg base "is_name" s_p_is_name 1 ["value"] (spJ K n nmD) := by
  obtain ⟨f, fd, F, mg1, bd⟩ := A
  obtain ⟨tL, g_LETTERS⟩ := gL
  obtain ⟨tM, g_MOST_LETTERS⟩ := gM
  refine ⟨f, fd, ?_, mg1, F.kp, bd, F⟩
  refine F.ok sc_p_is_name (fun vs H Q E h => ?_) (fun cdv A outer s H vs Q E hr h => ?_)
  · obtain ⟨v, d, rfl, _⟩ := h
    rfl
  · obtain ⟨v, d, rfl, r, lv, q⟩ := h
    refine ⟨_, (pss_one (ps_ret (pe_and (pe_callB call_isi (by rfl) Z.isinstance_ (by decide +kernel) (pa_cons (pv 0) (pa_cons (pe_bltn (v := .ty "str") (by rfl) Z.str_ (by decide +kernel) rfl) pa_nil))) (pe_and (pe_chain op_le op_le pe_int (pe_callB call_len_str (by rfl) Z.len_ (by decide +kernel) (pa_cons (pv 0) pa_nil)) (pe_glob (v := .int 6) (by rfl) g_MOST_LETTERS ⟨_, rfl⟩)) (pe_one (pe_callB (cr_all rfl) (by rfl) Z.all_ (by decide +kernel) (pa_cons (pe_lc (own := [("sign", 1)]) (g := gName 1) (by rfl) sc_p_is_name.nd (pi_str (pv 0)) (blkOk_by (own := [("sign", 1)]) (N := ["value", "sign"]) (sc := defScope s_p_is_name) (by decide +kernel)) (fun _ _ _ _ _ => pg_name (i := 1) sc_p_is_name.nd rfl (Or.inl rfl)) (fun _ _ _ _ _ => pts_nil) (fun _ _ _ _ _ => (pe_cmpR op_in_sign (pv 1) (pe_glob (v := .str abc) (by rfl) g_LETTERS ⟨_, rfl⟩) (by rfl)))) pa_nil))))))), ?_⟩
    refine ⟨_, rfl, v, _, _, _, _, rfl, .ty "str", r.ty, kit_ty (kit_str d r.nodict), _, rfl, ?_⟩
    cases d with
    | str x =>
      have hv : v = .str x := by
        cases r
        rfl
      subst hv
      have hx : x.length ≤ 100000 := by
        cases n <;> exact lv.1
      refine iteT ?_
      refine ⟨_, rfl, _, rfl, sline hx, _, _, rfl, rfl, _, rfl, ?_⟩
      have fin : ∀ b : Bool, b = isNm x → Q (.bl b) H := fun b e => by
        rw [e]
        exact q H (Same.refl H)
      refine ite2 (fun h1 => ?_) (fun h1 => ⟨_, rfl, iteF (fin _ ?_)⟩)
      · refine ⟨_, _, rfl, rfl, _, rfl, ?_⟩
        refine ite2 (fun h2 => ?_) (fun h2 => fin _ ?_)
        · refine ⟨_, rfl, x, rfl, fun L nL => ?_⟩
          refine lc_it (walk_str (z := x)) (fun i H2 => Same H H2 ∧ H2 L = some (.lst (((cs x).take i).map fun c => V.bl (decide (c ∈ cs abc))))) ⟨same_new nL, upd_same⟩ (fun _ _ _ _ => trivial) ?_ ?_
          · rintro i y H2 H3 hi ⟨s2, e2⟩ ⟨rfl, c, hc, rfl⟩
            have hc' : (cs x)[i]? = some c := by
              unfold cs
              rw [Array.getElem?_toList]
              exact hc
            have hl := lt_of_get hc'
            rw [← cs_len] at hl
            refine ⟨rfl, _, rfl, c, abc, rfl, rfl, _, e2, slineL ?_, ?_⟩
            · rw [List.length_map, List.length_take]
              omega
            · refine ⟨same_mut s2 nL, ?_⟩
              rw [upd_same, take_succ_map hc']
              rfl
          · rintro H2 ⟨s2, e2⟩
            have e3 : (cs x).take x.cps.size = cs x := List.take_of_length_le (by rw [← cs_len]; exact Nat.le_refl _)
            rw [e3] at e2
            refine ⟨L, (cs x).map fun c => decide (c ∈ cs abc), rfl, .inl (.inl (by rw [e2, List.map_map]; rfl)), ?_⟩
            have e4 : ((cs x).map fun c => decide (c ∈ cs abc)).all id = isNm x := by
              unfold isNm
              have a1 : decide (1 ≤ x.length) = true := decide_eq_true (by have := of_decide_eq_true h1; omega)
              have a2 : decide (x.length ≤ 6) = true := decide_eq_true (by have := of_decide_eq_true h2; omega)
              rw [a1, a2, List.all_map]
              rfl
            rw [e4]
            exact q H2 s2
        · have a2 : ¬ x.length ≤ 6 := fun z => h2 (decide_eq_true (by omega))
          unfold isNm
          rw [decide_eq_false a2, Bool.and_false, Bool.false_and]
      · have a1 : ¬ 1 ≤ x.length := fun z => h1 (decide_eq_true (by omega))
        unfold isNm
        rw [decide_eq_false a1, Bool.false_and, Bool.false_and]
    | _ => exact iteF (q H (Same.refl H))
end
end Th
namespace Th
open PySem PySem.Spec PyProof.Rows L2
abbrev s_p_are_names : Stmt := topS 18
theorem sc_p_are_names : FnScope ["values", "value"] ["values"] (defScope s_p_are_names) := ⟨rfl, rfl, rfl, by decide +kernel, rfl, by decide +kernel, by decide +kernel⟩
/-- whether all items of a tuple are names -/
def spNmsT (K : PySem.W.Frag) : Sp := fun vs H Q _ => ∃ (a : Addr) (xs : List V) (ds : List PyData), vs = [.ref a] ∧ SqT K H a xs ∧ DaAll K H xs ds ∧ ds.length ≤ 1000 ∧ (∀ d ∈ ds, Lv 5 d) ∧ ∀ H', Same H H' → Q (.bl (ds.all nmD)) H'
theorem all_take {f : PyData → Bool} (l : List PyData) : (l.map f).all id = l.all f := by
  rw [List.all_map]
  rfl
section
variable {P : Program} {w : World} {K : PySem.W.Frag} {mg : Str → Option Value} {base : Heap} {CB : Addr}
theorem has_p_are_names (Z : Zs mg) (A : At K mg "are_names" s_p_are_names ["values"]) (h_p_is_name : Has P w K mg base "is_name" s_p_is_name 1 ["value"] (spJ K 5 nmD)) : Has P w K mg base "are_names" s_p_are_names 2 ["values"] (spNmsT K) := by
  obtain ⟨f, fd, F, mg1, bd⟩ := A
  obtain ⟨f_p_is_name, fd_p_is_name, G_p_is_name, m_p_is_name, k_p_is_name, b_p_is_name, F_p_is_name⟩ := h_p_is_name
  refine ⟨f, fd, ?_, mg1, F.kp, bd, F⟩
  refine F.ok sc_p_are_names (fun vs H Q E h => ?_) (fun cdv A outer s H vs Q E hr h => ?_)
  · obtain ⟨a, xs, ds, rfl, _⟩ := h
    rfl
  · obtain ⟨a, xs, ds, rfl, hS, r, hl, lv, q⟩ := h
    refine ⟨_, (pss_one (ps_ret (pe_callB (cr_all rfl) (by rfl) Z.all_ (by decide +kernel) (pa_cons (pe_lc (own := [("value", 1)]) (g := gName 1) (by rfl) sc_p_are_names.nd (pi_tup (pv 0)) (blkOk_by (own := [("value", 1)]) (N := ["values", "value"]) (sc := defScope s_p_are_names) (by decide +kernel)) (fun _ _ _ _ _ => pg_name (i := 1) sc_p_are_names.nd rfl (Or.inl rfl)) (fun _ _ _ _ _ => pts_nil) (fun _ _ _ _ _ => (pe_call G_p_is_name (hr.mono (by decide)) (by rfl) m_p_is_name k_p_is_name b_p_is_name .nil pass0 (pa_cons (pv 1) pa_nil)))) pa_nil)))), ?_⟩
    refine ⟨_, rfl, a, rfl, ⟨xs, hS⟩, fun L nL => ?_⟩
    have hlen := r.len
    refine lc_tup (K := K) (a := a) (xs := xs) (fun i H2 => Same H H2 ∧ H2 L = some (.lst ((ds.take i).map fun d => V.bl (nmD d)))) ⟨same_new nL, upd_same⟩ (fun i H2 _ z => same_t z.1 hS) ?_ ?_
    · rintro i v H2 hi ⟨s2, e2⟩
      obtain ⟨d, hd, rd⟩ := r.at hi
      refine ⟨rfl, _, rfl, v, d, rfl, rd.to s2, lv d (List.mem_of_getElem? hd), fun H3 s3 => ?_⟩
      refine ⟨_, s3 _ _ e2, slineL (by rw [List.length_map, List.length_take]; omega), same_mut (s2.trans s3) nL, ?_⟩
      rw [upd_same, take_succ_map hd]
    · rintro H2 ⟨s2, e2⟩
      rw [hlen, List.take_length] at e2
      refine ⟨L, ds.map nmD, rfl, .inl (.inl (by rw [e2, List.map_map]; rfl)), ?_⟩
      rw [all_take]
      exact q H2 s2
end
end Th
namespace Th
open PySem PySem.Spec PyProof.Rows L2
abbrev s_p_is_fact : Stmt := topS 39
theorem sc_p_is_fact : FnScope ["value"] ["value"] (defScope s_p_is_fact) := ⟨rfl, rfl, rfl, by decide +kernel, rfl, by decide +kernel, by decide +kernel⟩
/-- how many names stand behind a fact's word -/
def manyN (z : Str) : Option Nat := if z = "before" then some 2 else if z = "first" then some 1 else if z = "last" then some 1 else none
/-- a datum is a fact -/
def factD : PyData → Bool
  | .tuple (.str h :: r) => match manyN h with
    | some m => r.length == m && r.all nmD
    | none => false
  | _ => false
theorem factD_str (h : Str) (r : List PyData) : factD (.tuple (.str h :: r)) = match manyN h with
    | some m => r.length == m && r.all nmD
    | none => false := rfl
def ManyOk (kvs : List (Str × Value)) : Prop := ∀ z, (∃ m t, manyN z = some m ∧ lookE kvs z = some (.int (m : Int) t)) ∨ (manyN z = none ∧ lookE kvs z = none)
theorem many_mk (t1 t2 t3 : Tok) : ManyOk [("before", .int 2 t1), ("first", .int 1 t2), ("last", .int 1 t3)] := by
  intro z
  by_cases h1 : z = "before"
  · subst h1
    exact .inl ⟨2, t1, by rw [manyN, if_pos rfl], by rw [lookE, if_pos rfl]; rfl⟩
  · by_cases h2 : z = "first"
    · subst h2
      exact .inl ⟨1, t2, by rw [manyN, if_neg h1, if_pos rfl], by rw [lookE, if_neg (fun e => h1 e.symm), lookE, if_pos rfl]; rfl⟩
    · by_cases h3 : z = "last"
      · subst h3
        exact .inl ⟨1, t3, by rw [manyN, if_neg h1, if_neg h2, if_pos rfl], by rw [lookE, if_neg (fun e => h1 e.symm), lookE, if_neg (fun e => h2 e.symm), lookE, if_pos rfl]; rfl⟩
      · exact .inr ⟨by rw [manyN, if_neg h1, if_neg h2, if_neg h3], by rw [lookE, if_neg (fun e => h1 e.symm), lookE, if_neg (fun e => h2 e.symm), lookE, if_neg (fun e => h3 e.symm), lookE]⟩
theorem cut1P (xs : List V) : cutV xs (some 1) none = xs.drop 1 := by
  unfold cutV
  rw [show HT.sIx xs.length 0 (some 1) = min 1 xs.length from HT.sIx_nat xs.length 0 1, HT.sIx_none]
  cases xs with
  | nil => rfl
  | cons x r =>
    rw [show min 1 (x :: r).length = 1 by rw [List.length_cons]; omega]
    show (List.take ((x :: r).length - 1) r) = r
    rw [List.length_cons, Nat.add_sub_cancel]
    exact List.take_length
section
variable {P : Program} {w : World} {K : PySem.W.Frag} {mg : Str → Option Value} {base : Heap} {CB : Addr}
theorem has_p_is_fact (Z : Zs mg) (gMN : ∃ (d : Addr) (es : Array DictEntry) (n : Nat) (kvs : List (Str × Value)), mg "_MANY_NAMES" = some (.ref d) ∧ KDict K w d es n ∧ (∀ z, PySem.W.nsIn K d z = some (lookE kvs z)) ∧ ManyOk kvs) (A : At K mg "is_fact" s_p_is_fact ["value"]) (h_p_are_names : Has P w K mg base "are_names" s_p_are_names 2 ["values"] (spNmsT K)) : Has P w K mg base "is_fact" s_p_is_fact 3 ["value"] (spJ K 5 factD) := by
  obtain ⟨f, fd, F, mg1, bd⟩ := A
  obtain ⟨f_p_are_names, fd_p_are_names, G_p_are_names, m_p_are_names, k_p_are_names, b_p_are_names, F_p_are_names⟩ := h_p_are_names
  obtain ⟨cM, eM, nM, kvs, g_MANY, KM, hM, okM⟩ := gMN
  refine ⟨f, fd, ?_, mg1, F.kp, bd, F⟩
  refine F.ok sc_p_is_fact (fun vs H Q E h => ?_) (fun cdv A outer s H vs Q E hr h => ?_)
  · obtain ⟨v, d, rfl, _⟩ := h
    rfl
  · obtain ⟨v, d, rfl, r, lv, q⟩ := h
    have nd := r.nodict
    refine ⟨_, (pss_cons (ps_if (PW.pt (pw_or (pt_not (pt_val (pe_callB call_isi (by rfl) Z.isinstance_ (by decide +kernel) (pa_cons (pv 0) (pa_cons (pe_bltn (v := .ty "tuple") (by rfl) Z.tuple_ (by decide +kernel) rfl) pa_nil))))) (pw_or (pt_cmpR op_eq (pe_callB call_len_seq (by rfl) Z.len_ (by decide +kernel) (pa_cons (pv 0) pa_nil)) pe_int (nomark _)) (pw_or1 (pt_not (pt_val (pe_callB call_isi (by rfl) Z.isinstance_ (by decide +kernel) (pa_cons (pe_ix ix_tup (pv 0) pe_int (fun _ _ => rfl)) (pa_cons (pe_bltn (v := .ty "str") (by rfl) Z.str_ (by decide +kernel) rfl) pa_nil))))))))) (pss_one (ps_ret pe_bl)) pss_nil) (pss_one (ps_ret (pe_and (pe_cmpR (show OpR _ (compareOp .In) (rInKd K cM) from op_in_kd KM) (pe_ix ix_tup (pv 0) pe_int (fun _ _ => rfl)) (pe_glob (v := .ref cM) (by rfl) g_MANY rfl) (by rfl)) (pe_and (pe_cmpR op_eq (pe_callB call_len_seq (by rfl) Z.len_ (by decide +kernel) (pa_cons (pv 0) pa_nil)) (pe_op op_add (pe_ix (show IxR _ (rKd K cM) from ix_kd KM) (pe_glob (v := .ref cM) (by rfl) g_MANY rfl) (pe_ix ix_tup (pv 0) pe_int (fun _ _ => rfl)) (fun _ _ => rfl)) pe_int) (nomark _)) (pe_one (pe_call G_p_are_names (hr.mono (by decide)) (by rfl) m_p_are_names k_p_are_names b_p_are_names .nil pass0 (pa_cons (pe_slice sl_tup (pv 0) (po_some pe_int) po_none) pa_nil)))))))), ?_⟩
    refine ⟨_, rfl, v, _, _, _, _, rfl, .ty "tuple", r.ty, kit_ty (kit_tuple d nd), _, rfl, ?_⟩
    cases d with
    | tuple ds =>
      cases r with
      | tup hs ht ra =>
        rename_i a xs
        have hl := ra.len
        have hl2 : ds.length ≤ 60 := lv.1
        refine iteF ?_
        refine ⟨_, rfl, a, xs, rfl, .inr hs, rfl, _, rfl, ?_⟩
        cases ds with
        | nil =>
          rw [hl, show decide (V.int (([] : List PyData).length : Int) = V.int 0) = true from decide_eq_true rfl]
          exact iteT (iteT (q H (Same.refl H)))
        | cons d r =>
          have hl' : xs.length = r.length + 1 := hl
          refine ite2 (fun z => ?_) (fun _ => ?_)
          · have z : ((xs.length : Nat) : Int) = 0 := V.int.inj (of_decide_eq_true z)
            omega
          obtain ⟨v, hv, rv⟩ := ra.at' (i := 0) (d := d) rfl
          refine ⟨_, rfl, a, xs, 0, v, rfl, rfl, hs, atI_of (by decide) hv, v, _, _, _, _, rfl, .ty "str", rv.ty, kit_ty (kit_str d rv.nodict), _, rfl, ?_⟩
          cases d with
          | str h =>
            refine iteF ?_
            have hvv : v = .str h := by cases rv; rfl
            subst hvv
            rw [factD_str] at q
            refine ⟨_, rfl, a, xs, 0, _, rfl, rfl, hs, atI_of (by decide) hv, h, _, rfl, rfl, hM h, _, rfl, ?_⟩
            rcases okM h with ⟨m, t, e1, e2⟩ | ⟨e1, e2⟩
            · rw [e1] at q
              rw [e2]
              refine iteT ?_
              refine ⟨_, rfl, a, xs, rfl, .inr hs, _, rfl, a, xs, 0, _, rfl, rfl, hs, atI_of (by decide) hv, h, _, .int m, rfl, rfl, (hM h).trans (by rw [e2]), ⟨t, rfl⟩, _, _, rfl, rfl, rfl, _, rfl, ?_⟩
              refine ite2 (fun h3 => ?_) (fun h3 => ?_)
              · have z : ((xs.length : Nat) : Int) = (m : Int) + 1 := V.int.inj (of_decide_eq_true h3)
                have l3 : r.length = m := by omega
                have m1 : 1 ≤ m := by
                  unfold manyN at e1
                  split at e1
                  · cases e1; decide
                  · split at e1
                    · cases e1; decide
                    · split at e1
                      · cases e1; decide
                      · cases e1
                refine ⟨_, rfl, 1, rfl, a, xs, rfl, hs, ?_, fun p np => ?_⟩
                · rw [show HT.sIx xs.length 0 (some 1) = min 1 xs.length from HT.sIx_nat xs.length 0 1]
                  omega
                · rw [cut1P]
                  refine ⟨p, xs.drop 1, r, rfl, .inl (.inl upd_same), (ra.drop 1).to (same_new np), by rw [List.length_cons] at hl2; omega, fun x hx => Lv.up _ _ (lv_in lv (List.mem_cons_of_mem _ hx)), fun H2 s2 => ?_⟩
                  have q1 := q H2 ((same_new np).trans s2)
                  have e3 : (r.length == m) = true := beq_iff_eq.mpr l3
                  simp only [e3, Bool.true_and] at q1
                  exact q1
              · have q1 := q H (Same.refl H)
                have l3 : (r.length == m) = false := beq_eq_false_iff_ne.mpr fun z => h3 (decide_eq_true (by rw [hl', z]; rfl))
                simp only [l3, Bool.false_and] at q1
                exact q1
            · rw [e1] at q
              rw [e2]
              exact iteF (q H (Same.refl H))
          | _ => exact iteT (q H (Same.refl H))
    | _ => exact iteT (iteT (q H (Same.refl H)))
end
end Th
namespace Th
open PySem PySem.Spec PyProof.Rows L2
abbrev s_l_is_fact : Stmt := topS 92
theorem sc_l_is_fact : FnScope ["_law_x", "_law_part", "_law_size"] ["_law_x"] (defScope s_l_is_fact) := ⟨rfl, rfl, rfl, by decide +kernel, rfl, by decide +kernel, by decide +kernel⟩
def isS : PyData → Bool
  | .str _ => true
  | _ => false
theorem isS_ty (d : PyData) : decide (tyD d = "str") = isS d := by
  cases d <;> rfl
theorem isS_all : ∀ {ds : List PyData}, ds.all isS = true → ∃ ss : List Str, ds = ss.map .str
  | [], _ => ⟨[], rfl⟩
  | d :: ds, h => by
    obtain ⟨a, b⟩ := Bool.and_eq_true_iff.mp (show (isS d && ds.all isS) = true from h)
    obtain ⟨ss, e⟩ := isS_all b
    cases d with
    | str x => exact ⟨x :: ss, by rw [e]; rfl⟩
    | _ => cases a
theorem nm_isS {d : PyData} (h : nmD d = true) : isS d = true := by
  cases d <;> first | rfl | cases h
theorem factD_noS {ds : List PyData} (h : ds.all isS = false) : factD (.tuple ds) = false := by
  cases ds with
  | nil => rfl
  | cons d r =>
    cases d with
    | str x =>
      rw [factD_str]
      have hr : r.all isS = false := h
      have hn : r.all nmD = false := by
        cases z : r.all nmD with
        | false => rfl
        | true =>
          have : r.all isS = true := List.all_eq_true.mpr fun y hy => nm_isS (List.all_eq_true.mp z y hy)
          rw [this] at hr
          cases hr
      cases manyN x with
      | none => rfl
      | some m => simp [hn]
    | _ => rfl
section
variable {P : Program} {w : World} {K : PySem.W.Frag} {mg : Str → Option Value} {base : Heap} {CB : Addr}
theorem has_l_is_fact (Z : Zs mg) (A : At K mg "_law_is_fact" s_l_is_fact ["_law_x"]) (h_l_is_name : Has P w K mg base "_law_is_name" s_l_is_name 2 ["_law_x"] (spJ K 4 nmD)) : Has P w K mg base "_law_is_fact" s_l_is_fact 3 ["_law_x"] (spJ K 5 factD) := by
  obtain ⟨f, fd, F, mg1, bd⟩ := A
  obtain ⟨f_l_is_name, fd_l_is_name, G_l_is_name, m_l_is_name, k_l_is_name, b_l_is_name, F_l_is_name⟩ := h_l_is_name
  refine ⟨f, fd, ?_, mg1, F.kp, bd, F⟩
  refine F.ok sc_l_is_fact (fun vs H Q E h => ?_) (fun cdv A outer s H vs Q E hr h => ?_)
  · obtain ⟨v, d, rfl, _⟩ := h
    rfl
  · obtain ⟨v, d, rfl, r, lv, q⟩ := h
    have nd := r.nodict
    refine ⟨_, (pss_cons (ps_if (PW.pt (pw_or (pt_not (pt_val (pe_callB call_isi (by rfl) Z.isinstance_ (by decide +kernel) (pa_cons (pv 0) (pa_cons (pe_bltn (v := .ty "tuple") (by rfl) Z.tuple_ (by decide +kernel) rfl) pa_nil))))) (pw_or (pt_cmpR op_eq (pe_callB call_len_seq (by rfl) Z.len_ (by decide +kernel) (pa_cons (pv 0) pa_nil)) pe_int (nomark _)) (pw_or1 (pt_not (pt_val (pe_callB (cr_all rfl) (by rfl) Z.all_ (by decide +kernel) (pa_cons (pe_lc (own := [("_law_part", 1)]) (g := gName 1) (by rfl) sc_l_is_fact.nd (pi_tup (pv 0)) (blkOk_by (own := [("_law_part", 1)]) (N := ["_law_x", "_law_part", "_law_size"]) (sc := defScope s_l_is_fact) (by decide +kernel)) (fun _ _ _ _ _ => pg_name (i := 1) sc_l_is_fact.nd rfl (Or.inl rfl)) (fun _ _ _ _ _ => pts_nil) (fun _ _ _ _ _ => (pe_callB (show CallR _ (.builtin "isinstance") (rIsi K) from call_isi) (by rfl) Z.isinstance_ (by decide +kernel) (pa_cons (pv 1) (pa_cons (pe_bltn (v := .ty "str") (by rfl) Z.str_ (by decide +kernel) rfl) pa_nil))))) pa_nil)))))))) (pss_one (ps_ret pe_bl)) pss_nil) (C8.pss_cut (ps_set (i := 2) sc_l_is_fact.nd rfl (Or.inl rfl) (pe_ifExp (pt_cmpR op_eq (pe_ix ix_tup (pv 0) pe_int (fun _ _ => rfl)) pe_str (nomark _)) pe_int (pe_ifExp (pt_cmpR op_in_seq (pe_ix ix_tup (pv 0) pe_int (fun _ _ => rfl)) (pe_tup (pa_cons pe_str (pa_cons pe_str pa_nil))) (by rfl)) pe_int pe_int))) (pss_one (ps_ret (pe_and (pe_cmpR op_eq (pe_callB call_len_seq (by rfl) Z.len_ (by decide +kernel) (pa_cons (pv 0) pa_nil)) (pv 2) (nomark _)) (pe_one (pe_callB (cr_all rfl) (by rfl) Z.all_ (by decide +kernel) (pa_cons (pe_lc (own := [("_law_part", 1)]) (g := gName 1) (by rfl) sc_l_is_fact.nd (pi_tup (pe_slice sl_tup (pv 0) (po_some pe_int) po_none)) (blkOk_by (own := [("_law_part", 1)]) (N := ["_law_x", "_law_part", "_law_size"]) (sc := defScope s_l_is_fact) (by decide +kernel)) (fun _ _ _ _ _ => pg_name (i := 1) sc_l_is_fact.nd rfl (Or.inl rfl)) (fun _ _ _ _ _ => pts_nil) (fun _ _ _ _ _ => (pe_call G_l_is_name (hr.mono (by decide)) (by rfl) m_l_is_name k_l_is_name b_l_is_name .nil pass0 (pa_cons (pv 1) pa_nil)))) pa_nil)))))))), ?_⟩
    refine ⟨_, rfl, v, _, _, _, _, rfl, .ty "tuple", r.ty, kit_ty (kit_tuple d nd), _, rfl, ?_⟩
    cases d with
    | tuple ds =>
      cases r with
      | tup hs ht ra =>
        rename_i a xs
        have hl := ra.len
        have hl2 : ds.length ≤ 60 := lv.1
        refine iteF ?_
        refine ⟨_, rfl, a, xs, rfl, .inr hs, rfl, _, rfl, ?_⟩
        refine ite2 (fun h0 => ?_) (fun h0 => ?_)
        · have e0 : ds = [] := by
            have z : ((xs.length : Nat) : Int) = 0 := V.int.inj (of_decide_eq_true h0)
            exact List.length_eq_zero_iff.mp (by omega)
          subst e0
          exact iteT (q H (Same.refl H))
        · have hne : ds ≠ [] := fun z => h0 (by subst z; exact decide_eq_true (by rw [hl]; rfl))
          refine ⟨_, rfl, a, rfl, ⟨xs, hs⟩, fun L nL => ?_⟩
          refine lc_tup (K := K) (a := a) (xs := xs) (fun i H2 => Same H H2 ∧ H2 L = some (.lst ((ds.take i).map fun d => V.bl (isS d)))) ⟨same_new nL, upd_same⟩ (fun i H2 _ z => same_t z.1 hs) ?_ ?_
          · rintro i v H2 hi ⟨s2, e2⟩
            obtain ⟨d, hd, rd⟩ := ra.at hi
            have rd2 := rd.to s2
            refine ⟨rfl, _, rfl, v, _, _, _, _, rfl, .ty "str", rd2.ty, kit_ty (kit_str d rd2.nodict), _, e2, slineL (by rw [List.length_map, List.length_take]; omega), same_mut s2 nL, ?_⟩
            rw [upd_same, take_succ_map hd, isS_ty]
          · rintro H2 ⟨s2, e2⟩
            rw [hl, List.take_length] at e2
            refine ⟨L, ds.map isS, rfl, .inl (.inl (by rw [e2, List.map_map]; rfl)), _, rfl, ?_⟩
            rw [show (ds.map isS).all id = ds.all isS by rw [List.all_map]; rfl]
            cases hn : ds.all isS with
            | false =>
              refine iteT ?_
              have q1 := q H2 s2
              rw [factD_noS hn] at q1
              exact q1
            | true =>
              refine iteF ?_
              obtain ⟨ss, es⟩ := isS_all hn
              subst es
              cases ss with
              | nil => exact absurd rfl hne
              | cons h r =>
                have hs2 := same_t s2 hs
                have rb := ra.to s2
                obtain ⟨v, hv, rv⟩ := ra.at' (i := 0) (d := .str h) rfl
                cases rv
                have hv' : atI xs 0 = some (.str h) := atI_of (by decide) hv
                have hl' : xs.length = r.length + 1 := by rw [hl, List.length_map]; rfl
                have lr : r.length ≤ 59 := by rw [List.length_map, List.length_cons] at hl2; omega
                have q' : ∀ H', Same H H' → Q (.bl (match manyN h with | some m => (r.map PyData.str).length == m && (r.map PyData.str).all nmD | none => false)) H' := q
                -- the size that is due
                refine ⟨fun σ H3 => ∃ n : Nat, σ = [some (.ref a), none, some (.int n)] ∧ Same H H3 ∧ ((∃ m, manyN h = some m ∧ n = m + 1) ∨ (manyN h = none ∧ n = 0)), ?_, ?_⟩
                · refine ⟨_, rfl, a, xs, 0, _, rfl, rfl, hs2, hv', rfl, _, rfl, ?_⟩
                  refine ite2 (fun h1 => ?_) (fun h1 => ?_)
                  · exact ⟨3, rfl, s2, .inl ⟨2, by unfold manyN; rw [if_pos (V.str.inj (of_decide_eq_true h1))], rfl⟩⟩
                  · have n1 : ¬ h = "before" := fun z => h1 (decide_eq_true (by rw [z]))
                    refine ⟨_, rfl, a, xs, 0, _, rfl, rfl, hs2, hv', by show 2 ≤ sizeLine; decide, fun u nu => ?_⟩
                    refine ⟨u, _, rfl, .inr (.inl (.inl upd_same)), rfl, rfl, _, rfl, ?_⟩
                    rw [if_neg Bool.false_ne_true]
                    have ein : inV (.str h) [V.str "first", V.str "last"] = decide (h = "first" ∨ h = "last") := by
                      have z := inS h [Str.ofString "first", Str.ofString "last"]
                      refine z.trans ?_
                      simp only [List.mem_cons, List.not_mem_nil, or_false]
                    rw [ein]
                    refine ite2 (fun h2 => ?_) (fun h2 => ?_)
                    · refine ⟨2, rfl, s2.trans (same_new nu), .inl ⟨1, ?_, rfl⟩⟩
                      unfold manyN
                      rw [if_neg n1]
                      rcases of_decide_eq_true h2 with z | z
                      · rw [if_pos z]
                      · by_cases z1 : h = "first"
                        · rw [if_pos z1]
                        · rw [if_neg z1, if_pos z]
                    · refine ⟨0, rfl, s2.trans (same_new nu), .inr ⟨?_, rfl⟩⟩
                      have z := fun w => h2 (decide_eq_true w)
                      unfold manyN
                      rw [if_neg n1, if_neg (fun w => z (.inl w)), if_neg (fun w => z (.inr w))]
                · rintro σ H3 ⟨n, rfl, s3, hn2⟩
                  refine ⟨_, rfl, a, xs, rfl, .inr (same_t s3 hs), _, rfl, rfl, _, rfl, ?_⟩
                  refine ite2 (fun h3 => ?_) (fun h3 => ?_)
                  · have z : ((xs.length : Nat) : Int) = (n : Int) := V.int.inj (of_decide_eq_true h3)
                    rcases hn2 with ⟨m, e1, e2⟩ | ⟨e1, e2⟩
                    · have lr2 : r.length = m := by omega
                      have m1 : 1 ≤ m := by
                        unfold manyN at e1
                        split at e1
                        · cases e1; decide
                        · split at e1
                          · cases e1; decide
                          · split at e1
                            · cases e1; decide
                            · cases e1
                      refine ⟨_, rfl, 1, rfl, a, xs, rfl, same_t s3 hs, ?_, fun p np => ?_⟩
                      · rw [show HT.sIx xs.length 0 (some 1) = min 1 xs.length from HT.sIx_nat xs.length 0 1]
                        omega
                      · rw [cut1P]
                        have rc := ((ra.to s3).drop 1).to (same_new (o := .tup (xs.drop 1)) np)
                        have s4 := s3.trans (same_new (o := .tup (xs.drop 1)) np)
                        have ep : (upd H3 p (.tup (xs.drop 1))) p = some (.tup (xs.drop 1)) := upd_same
                        generalize upd H3 p (.tup (xs.drop 1)) = H4 at rc s4 ep ⊢
                        have rc : DaAll K H4 (xs.drop 1) (r.map PyData.str) := rc
                        refine ⟨p, rfl, ⟨_, .inl (.inl ep)⟩, fun L2 nL2 => ?_⟩
                        refine lc_tup (K := K) (a := p) (xs := xs.drop 1) (fun i H5 => Same H4 H5 ∧ H5 L2 = some (.lst (((r.map PyData.str).take i).map fun d => V.bl (nmD d)))) ⟨same_new nL2, upd_same⟩ (fun i H5 _ z => .inl (.inl (z.1 _ _ ep))) ?_ ?_
                        · rintro i v H5 hi ⟨s5, e5⟩
                          obtain ⟨d, hd, rd⟩ := rc.at hi
                          refine ⟨rfl, _, rfl, v, d, rfl, rd.to s5, lv_in lv (List.mem_cons_of_mem _ (List.mem_of_getElem? hd)), fun H6 s6 => ?_⟩
                          refine ⟨_, s6 _ _ e5, slineL (by rw [List.length_map, List.length_take, List.length_map]; omega), same_mut (s5.trans s6) nL2, ?_⟩
                          rw [upd_same, take_succ_map hd]
                        · rintro H5 ⟨s5, e5⟩
                          rw [rc.len, List.take_length] at e5
                          refine ⟨L2, (r.map PyData.str).map nmD, rfl, .inl (.inl (by rw [e5]; simp only [List.map_map]; rfl)), ?_⟩
                          have q1 := q' H5 (s4.trans s5)
                          have e3 : ((r.map PyData.str).length == m) = true := by rw [List.length_map]; exact beq_iff_eq.mpr lr2
                          rw [e1] at q1
                          simp only [e3, Bool.true_and] at q1
                          rw [show ((r.map PyData.str).map nmD).all id = (r.map PyData.str).all nmD by rw [List.all_map]; rfl]
                          exact q1
                    · omega
                  · have q1 := q' H3 s3
                    rcases hn2 with ⟨m, e1, e2⟩ | ⟨e1, e2⟩
                    · have e3 : ((r.map PyData.str).length == m) = false := by
                        rw [List.length_map]
                        exact beq_eq_false_iff_ne.mpr fun z => h3 (decide_eq_true (by rw [hl', z, e2]))
                      rw [e1] at q1
                      simp only [e3, Bool.false_and] at q1
                      exact q1
                    · rw [e1] at q1
                      exact q1
    | _ => exact iteT (iteT (q H (Same.refl H)))
end
end Th
namespace Th
open PySem PySem.Spec PyProof.Rows L2
abbrev s_p_is_marked_fact : Stmt := topS 40
theorem sc_p_is_marked_fact : FnScope ["value"] ["value"] (defScope s_p_is_marked_fact) := ⟨rfl, rfl, rfl, by decide +kernel, rfl, by decide +kernel, by decide +kernel⟩
/-- a datum is a marked fact -/
def mfD : PyData → Bool
  | .tuple [m, f] => nmD m && factD f
  | _ => false
theorem mfD_len {ds : List PyData} (h : ds.length ≠ 2) : mfD (.tuple ds) = false := by
  cases ds with
  | nil => rfl
  | cons a r =>
    cases r with
    | nil => rfl
    | cons b r =>
      cases r with
      | nil => exact absurd rfl h
      | cons _ _ => rfl
section
variable {P : Program} {w : World} {K : PySem.W.Frag} {mg : Str → Option Value} {base : Heap} {CB : Addr}
theorem has_p_is_marked_fact (Z : Zs mg) (A : At K mg "is_marked_fact" s_p_is_marked_fact ["value"]) (h_p_is_name : Has P w K mg base "is_name" s_p_is_name 1 ["value"] (spJ K 5 nmD)) (h_p_is_fact : Has P w K mg base "is_fact" s_p_is_fact 3 ["value"] (spJ K 5 factD)) : Has P w K mg base "is_marked_fact" s_p_is_marked_fact 4 ["value"] (spJ K 6 mfD) := by
  obtain ⟨f, fd, F, mg1, bd⟩ := A
  obtain ⟨f_p_is_name, fd_p_is_name, G_p_is_name, m_p_is_name, k_p_is_name, b_p_is_name, F_p_is_name⟩ := h_p_is_name
  obtain ⟨f_p_is_fact, fd_p_is_fact, G_p_is_fact, m_p_is_fact, k_p_is_fact, b_p_is_fact, F_p_is_fact⟩ := h_p_is_fact
  refine ⟨f, fd, ?_, mg1, F.kp, bd, F⟩
  refine F.ok sc_p_is_marked_fact (fun vs H Q E h => ?_) (fun cdv A outer s H vs Q E hr h => ?_)
  · obtain ⟨v, d, rfl, _⟩ := h
    rfl
  · obtain ⟨v, d, rfl, r, lv, q⟩ := h
    have nd := r.nodict
    refine ⟨_, (pss_one (ps_ret (pe_and (pe_callB call_isi (by rfl) Z.isinstance_ (by decide +kernel) (pa_cons (pv 0) (pa_cons (pe_bltn (v := .ty "tuple") (by rfl) Z.tuple_ (by decide +kernel) rfl) pa_nil))) (pe_and (pe_cmpR op_eq (pe_callB call_len_seq (by rfl) Z.len_ (by decide +kernel) (pa_cons (pv 0) pa_nil)) pe_int (nomark _)) (pe_and (pe_call G_p_is_name (hr.mono (by decide)) (by rfl) m_p_is_name k_p_is_name b_p_is_name .nil pass0 (pa_cons (pe_ix ix_tup (pv 0) pe_int (fun _ _ => rfl)) pa_nil)) (pe_one (pe_call G_p_is_fact (hr.mono (by decide)) (by rfl) m_p_is_fact k_p_is_fact b_p_is_fact .nil pass0 (pa_cons (pe_ix ix_tup (pv 0) pe_int (fun _ _ => rfl)) pa_nil)))))))), ?_⟩
    refine ⟨_, rfl, v, _, _, _, _, rfl, .ty "tuple", r.ty, kit_ty (kit_tuple d nd), _, rfl, ?_⟩
    cases d with
    | tuple ds =>
      cases r with
      | tup hs ht ra =>
        rename_i a xs
        have hl := ra.len
        refine iteT ?_
        refine ⟨_, rfl, a, xs, rfl, .inr hs, rfl, _, rfl, ?_⟩
        refine ite2 (fun h2 => ?_) (fun h2 => ?_)
        · have z : ((xs.length : Nat) : Int) = 2 := V.int.inj (of_decide_eq_true h2)
          obtain ⟨m, f0, e⟩ : ∃ m f0, ds = [m, f0] := by
            cases ds with
            | nil => rw [List.length_nil] at hl; omega
            | cons m r =>
              cases r with
              | nil => rw [List.length_cons, List.length_nil] at hl; omega
              | cons f0 r =>
                cases r with
                | nil => exact ⟨m, f0, rfl⟩
                | cons _ _ => rw [List.length_cons, List.length_cons, List.length_cons] at hl; omega
          subst e
          obtain ⟨v0, hv0, r0⟩ := ra.at' (i := 0) (d := m) rfl
          obtain ⟨v1, hv1, r1⟩ := ra.at' (i := 1) (d := f0) rfl
          refine ⟨_, rfl, a, xs, 0, v0, rfl, rfl, hs, atI_of (by decide) hv0, v0, m, rfl, r0, lv_in lv List.mem_cons_self, fun H1 s1 => ⟨_, rfl, ?_⟩⟩
          cases hm : nmD m with
          | false =>
            refine iteF ?_
            have q1 := q H1 s1
            rw [show mfD (.tuple [m, f0]) = (nmD m && factD f0) from rfl, hm] at q1
            exact q1
          | true =>
            refine iteT ?_
            refine ⟨_, rfl, a, xs, 1, v1, rfl, rfl, same_t s1 hs, atI_of (by decide) hv1, v1, f0, rfl, r1.to s1, lv_in lv (List.mem_cons_of_mem _ List.mem_cons_self), fun H2 s2 => ?_⟩
            have q1 := q H2 (s1.trans s2)
            rw [show mfD (.tuple [m, f0]) = (nmD m && factD f0) from rfl, hm] at q1
            exact q1
        · have q1 := q H (Same.refl H)
          rw [mfD_len (fun z => h2 (decide_eq_true (by rw [hl, z]; rfl)))] at q1
          exact q1
    | _ => exact iteF (q H (Same.refl H))
end
end Th
namespace Th
open PySem PySem.Spec PyProof.Rows L2
abbrev s_l_is_marked : Stmt := topS 93
theorem sc_l_is_marked : FnScope ["_law_x"] ["_law_x"] (defScope s_l_is_marked) := ⟨rfl, rfl, rfl, by decide +kernel, rfl, by decide +kernel, by decide +kernel⟩

section
variable {P : Program} {w : World} {K : PySem.W.Frag} {mg : Str → Option Value} {base : Heap} {CB : Addr}
theorem has_l_is_marked (Z : Zs mg) (A : At K mg "_law_is_marked" s_l_is_marked ["_law_x"]) (h_l_is_name : Has P w K mg base "_law_is_name" s_l_is_name 2 ["_law_x"] (spJ K 5 nmD)) (h_l_is_fact : Has P w K mg base "_law_is_fact" s_l_is_fact 3 ["_law_x"] (spJ K 5 factD)) : Has P w K mg base "_law_is_marked" s_l_is_marked 4 ["_law_x"] (spJ K 6 mfD) := by
  obtain ⟨f, fd, F, mg1, bd⟩ := A
  obtain ⟨f_l_is_name, fd_l_is_name, G_l_is_name, m_l_is_name, k_l_is_name, b_l_is_name, F_l_is_name⟩ := h_l_is_name
  obtain ⟨f_l_is_fact, fd_l_is_fact, G_l_is_fact, m_l_is_fact, k_l_is_fact, b_l_is_fact, F_l_is_fact⟩ := h_l_is_fact
  refine ⟨f, fd, ?_, mg1, F.kp, bd, F⟩
  refine F.ok sc_l_is_marked (fun vs H Q E h => ?_) (fun cdv A outer s H vs Q E hr h => ?_)
  · obtain ⟨v, d, rfl, _⟩ := h
    rfl
  · obtain ⟨v, d, rfl, r, lv, q⟩ := h
    have nd := r.nodict
    refine ⟨_, (pss_one (ps_ret (pe_and (pe_callB call_isi (by rfl) Z.isinstance_ (by decide +kernel) (pa_cons (pv 0) (pa_cons (pe_bltn (v := .ty "tuple") (by rfl) Z.tuple_ (by decide +kernel) rfl) pa_nil))) (pe_and (pe_cmpR op_eq (pe_callB call_len_seq (by rfl) Z.len_ (by decide +kernel) (pa_cons (pv 0) pa_nil)) pe_int (nomark _)) (pe_and (pe_call G_l_is_name (hr.mono (by decide)) (by rfl) m_l_is_name k_l_is_name b_l_is_name .nil pass0 (pa_cons (pe_ix ix_tup (pv 0) pe_int (fun _ _ => rfl)) pa_nil)) (pe_one (pe_call G_l_is_fact (hr.mono (by decide)) (by rfl) m_l_is_fact k_l_is_fact b_l_is_fact .nil pass0 (pa_cons (pe_ix ix_tup (pv 0) pe_int (fun _ _ => rfl)) pa_nil)))))))), ?_⟩
    refine ⟨_, rfl, v, _, _, _, _, rfl, .ty "tuple", r.ty, kit_ty (kit_tuple d nd), _, rfl, ?_⟩
    cases d with
    | tuple ds =>
      cases r with
      | tup hs ht ra =>
        rename_i a xs
        have hl := ra.len
        refine iteT ?_
        refine ⟨_, rfl, a, xs, rfl, .inr hs, rfl, _, rfl, ?_⟩
        refine ite2 (fun h2 => ?_) (fun h2 => ?_)
        · have z : ((xs.length : Nat) : Int) = 2 := V.int.inj (of_decide_eq_true h2)
          obtain ⟨m, f0, e⟩ : ∃ m f0, ds = [m, f0] := by
            cases ds with
            | nil => rw [List.length_nil] at hl; omega
            | cons m r =>
              cases r with
              | nil => rw [List.length_cons, List.length_nil] at hl; omega
              | cons f0 r =>
                cases r with
                | nil => exact ⟨m, f0, rfl⟩
                | cons _ _ => rw [List.length_cons, List.length_cons, List.length_cons] at hl; omega
          subst e
          obtain ⟨v0, hv0, r0⟩ := ra.at' (i := 0) (d := m) rfl
          obtain ⟨v1, hv1, r1⟩ := ra.at' (i := 1) (d := f0) rfl
          refine ⟨_, rfl, a, xs, 0, v0, rfl, rfl, hs, atI_of (by decide) hv0, v0, m, rfl, r0, lv_in lv List.mem_cons_self, fun H1 s1 => ⟨_, rfl, ?_⟩⟩
          cases hm : nmD m with
          | false =>
            refine iteF ?_
            have q1 := q H1 s1
            rw [show mfD (.tuple [m, f0]) = (nmD m && factD f0) from rfl, hm] at q1
            exact q1
          | true =>
            refine iteT ?_
            refine ⟨_, rfl, a, xs, 1, v1, rfl, rfl, same_t s1 hs, atI_of (by decide) hv1, v1, f0, rfl, r1.to s1, lv_in lv (List.mem_cons_of_mem _ List.mem_cons_self), fun H2 s2 => ?_⟩
            have q1 := q H2 (s1.trans s2)
            rw [show mfD (.tuple [m, f0]) = (nmD m && factD f0) from rfl, hm] at q1
            exact q1
        · have q1 := q H (Same.refl H)
          rw [mfD_len (fun z => h2 (decide_eq_true (by rw [hl, z]; rfl)))] at q1
          exact q1
    | _ => exact iteF (q H (Same.refl H))
end
end Th
namespace Th
open PySem PySem.Spec PyProof.Rows L2
abbrev s_p_is_listed : Stmt := topS 31
theorem sc_p_is_listed : FnScope ["value"] ["value"] (defScope s_p_is_listed) := ⟨rfl, rfl, rfl, by decide +kernel, rfl, by decide +kernel, by decide +kernel⟩
/-- whether a datum is a list or a tuple -/
def spSeqQ (K : PySem.W.Frag) : Sp := fun vs H Q _ => ∃ (v : V) (d : PyData), vs = [v] ∧ Da K H v d ∧ ∀ H', Same H H' → Q (.bl (decide (tyD d = "list" ∨ tyD d = "tuple"))) H'
section
variable {P : Program} {w : World} {K : PySem.W.Frag} {mg : Str → Option Value} {base : Heap} {CB : Addr}
theorem has_p_is_listed (Z : Zs mg) (A : At K mg "is_listed" s_p_is_listed ["value"]) : Has P w K mg base "is_listed" s_p_is_listed 1 ["value"] (spSeqQ K) := by
  obtain ⟨f, fd, F, mg1, bd⟩ := A
  refine ⟨f, fd, ?_, mg1, F.kp, bd, F⟩
  refine F.ok sc_p_is_listed (fun vs H Q E h => ?_) (fun cdv A outer s H vs Q E hr h => ?_)
  · obtain ⟨v, d, rfl, _⟩ := h
    rfl
  · obtain ⟨v, d, rfl, rv, q⟩ := h
    refine ⟨_, (pss_one (ps_ret (pe_callB (show CallR _ (.builtin "isinstance") (rIsiT K) from call_isiT) (by rfl) Z.isinstance_ (by decide +kernel) (pa_cons (pv 0) (pa_cons (pe_tup (pa_cons (pe_bltn (v := .ty "list") (by rfl) Z.list_ (by decide +kernel) rfl) (pa_cons (pe_bltn (v := .ty "tuple") (by rfl) Z.tuple_ (by decide +kernel) rfl) pa_nil))) pa_nil))))), ?_⟩
    exact ⟨_, rfl, (by show 2 ≤ sizeLine; decide), fun t nt => ⟨v, t, _, _, _, _, rfl, upd_same, .cons (.ty _) (.cons (.ty _) .nil), ty_same (same_new nt) rv.ty, kit_lt d rv.nodict, q _ (same_new nt)⟩⟩
end
end Th
namespace Th
open PySem PySem.Spec PyProof.Rows L2
abbrev s_p_names_in : Stmt := topS 41
theorem sc_p_names_in : FnScope ["fact"] ["fact"] (defScope s_p_names_in) := ⟨rfl, rfl, rfl, by decide +kernel, rfl, by decide +kernel, by decide +kernel⟩
/-- the names of a fact that is a tuple of texts, in a new list -/
def spNamesIn (K : PySem.W.Frag) : Sp := fun vs H Q _ => ∃ (a : Addr) (ss : List Str), vs = [.ref a] ∧ SqT K H a (ss.map V.str) ∧ ss ≠ [] ∧ ∀ r H', Same H H' → H r = none → H' r = some (.lst ((ss.drop 1).map V.str)) → Q (.ref r) H'
theorem cut1N (xs : List V) : cutV xs (some 1) none = xs.drop 1 := by
  unfold cutV
  rw [show HT.sIx xs.length 0 (some 1) = min 1 xs.length from HT.sIx_nat xs.length 0 1, HT.sIx_none]
  cases xs with
  | nil => rfl
  | cons x r =>
    rw [show min 1 (x :: r).length = 1 by rw [List.length_cons]; omega]
    show (List.take ((x :: r).length - 1) r) = r
    rw [List.length_cons, Nat.add_sub_cancel]
    exact List.take_length
section
variable {P : Program} {w : World} {K : PySem.W.Frag} {mg : Str → Option Value} {base : Heap} {CB : Addr}
theorem has_p_names_in (Z : Zs mg) (A : At K mg "names_in" s_p_names_in ["fact"]) : Has P w K mg base "names_in" s_p_names_in 1 ["fact"] (spNamesIn K) := by
  obtain ⟨f, fd, F, mg1, bd⟩ := A
  refine ⟨f, fd, ?_, mg1, F.kp, bd, F⟩
  refine F.ok sc_p_names_in (fun vs H Q E h => ?_) (fun cdv A outer s H vs Q E hr h => ?_)
  · obtain ⟨a, ss, rfl, _⟩ := h
    rfl
  · obtain ⟨a, ss, rfl, hs, hne, q⟩ := h
    refine ⟨_, (pss_one (ps_ret (pe_callTy call_list_of (by rfl) Z.list_ (by decide +kernel) (pa_cons (pe_slice sl_tup (pv 0) (po_some pe_int) po_none) pa_nil)))), ?_⟩
    refine ⟨_, rfl, 1, rfl, a, _, rfl, hs, ?_, fun p np => ?_⟩
    · rw [show HT.sIx (ss.map V.str).length 0 (some 1) = min 1 (ss.map V.str).length from HT.sIx_nat _ 0 1]
      have l0 : 0 < ss.length := List.length_pos_iff.mpr hne
      rw [List.length_map]
      omega
    · rw [cut1N, ← List.map_drop]
      refine ⟨p, _, rfl, .inr (.inl (.inl upd_same)), fun r nr => ?_⟩
      exact q r _ ((same_new np).trans (same_new nr)) ((same_new np).free nr) upd_same
end
end Th
namespace Th
open PySem PySem.Spec PyProof.Rows L2
abbrev s_p_copied : Stmt := topS 2
theorem sc_p_copied : FnScope ["value", "item"] ["value"] (defScope s_p_copied) := ⟨rfl, rfl, rfl, by decide +kernel, rfl, by decide +kernel, by decide +kernel⟩

/-- a copy of data: what is hidden stays out of it -/
def spCopy (K : PySem.W.Frag) (n : Nat) : Sp := fun vs H Q _ => ∃ (v : V) (d : PyData) (S : Addr → Prop), vs = [v] ∧ (∀ b, S b → H b ≠ none) ∧ Da K (hidS S H) v d ∧ LvN n d ∧ ∀ v' H', Same H H' → Da K (hidS S H') v' d → Q v' H'
section
variable {P : Program} {w : World} {K : PySem.W.Frag} {mg : Str → Option Value} {base : Heap}
theorem copied_step (Z : Zs mg) {f : Addr} {fd : FuncData} (F : Fun K "copied" "copied" s_p_copied f fd) (m_p_copied : mg "copied" = some (.ref f)) (b_p_copied : Binds K fd ["value"] []) (k : Nat)
    (G_p_copied : FnOk P w K mg base CX0 k f fd ["value"] (spCopy K k)) : FnOk P w K mg base CX0 (k + 1) f fd ["value"] (spCopy K (k + 1)) := by
  have k_p_copied := F.kp
  refine F.ok sc_p_copied (fun vs H Q E h => ?_) (fun cdv A outer s H vs Q E hr h => ?_)
  · obtain ⟨v, d, S, rfl, _⟩ := h
    rfl
  · obtain ⟨v, d, S, rfl, hS, rv, lv, q⟩ := h
    have nd := rv.nodict
    have rH := rv.to hidS_same
    refine ⟨_, (pss_cons (ps_if (pt_val (pe_callB call_isi (by rfl) Z.isinstance_ (by decide +kernel) (pa_cons (pv 0) (pa_cons (pe_bltn (v := .ty "list") (by rfl) Z.list_ (by decide +kernel) rfl) pa_nil)))) (pss_one (ps_ret (pe_lc (own := [("item", 1)]) (g := gName 1) (by rfl) sc_p_copied.nd (pi_list (pv 0)) (blkOk_by (own := [("item", 1)]) (N := ["value", "item"]) (sc := defScope s_p_copied) (by decide +kernel)) (fun _ _ _ _ _ => pg_name (i := 1) sc_p_copied.nd rfl (Or.inl rfl)) (fun _ _ _ _ _ => pts_nil) (fun _ _ _ _ _ => (pe_call G_p_copied (hr.mono (Nat.le_refl _)) (by rfl) m_p_copied k_p_copied b_p_copied .nil pass0 (pa_cons (pv 1) pa_nil)))))) pss_nil) (pss_cons (ps_if (pt_val (pe_callB call_isi (by rfl) Z.isinstance_ (by decide +kernel) (pa_cons (pv 0) (pa_cons (pe_bltn (v := .ty "tuple") (by rfl) Z.tuple_ (by decide +kernel) rfl) pa_nil)))) (pss_one (ps_ret (pe_callTy call_tuple_of (by rfl) Z.tuple_ (by decide +kernel) (pa_cons (pe_lc (own := [("item", 1)]) (g := gName 1) (by rfl) sc_p_copied.nd (pi_tup (pv 0)) (blkOk_by (own := [("item", 1)]) (N := ["value", "item"]) (sc := defScope s_p_copied) (by decide +kernel)) (fun _ _ _ _ _ => pg_name (i := 1) sc_p_copied.nd rfl (Or.inl rfl)) (fun _ _ _ _ _ => pts_nil) (fun _ _ _ _ _ => (pe_call G_p_copied (hr.mono (Nat.le_refl _)) (by rfl) m_p_copied k_p_copied b_p_copied .nil pass0 (pa_cons (pv 1) pa_nil)))) pa_nil)))) pss_nil) (pss_one (ps_ret (pv 0))))), ?_⟩
    have lv : Lv k d := lv
    -- a comprehension over the items copies each
    have walk : ∀ (L : Addr) (xs : List V) (ds : List PyData), H L = none → DaAll K (hidS S H) xs ds → (∀ x ∈ ds, LvN k x) → xs.length ≤ 60 → ∀ (i : Nat) (y : V) (H2 : Hp), xs[i]? = some y →
        (∃ ys, Same H H2 ∧ H2 L = some (.lst ys) ∧ ys.length = i ∧ DaAll K (hidS (fun b => S b ∨ b = L) H2) ys (ds.take i)) →
        spCopy K k ([y] ++ []) H2 (fun v' H3 => ∃ zs, H3 L = some (.lst zs) ∧ zs.length < sizeLine ∧ ∃ ys, Same H (upd H3 L (.lst (zs ++ [v']))) ∧ upd H3 L (.lst (zs ++ [v'])) L = some (.lst ys) ∧ ys.length = i + 1 ∧ DaAll K (hidS (fun b => S b ∨ b = L) (upd H3 L (.lst (zs ++ [v'])))) ys (ds.take (i + 1))) E0 := by
      rintro L xs ds nL rx lvx lx i y H2 hi ⟨ys, s2, e2, hy, ry⟩
      obtain ⟨e, he, re⟩ := rx.at hi
      refine ⟨y, e, fun b => S b ∨ b = L, rfl, fun b hb => ?_, re.to (hidS_more s2 nL), lvx e (List.mem_of_getElem? he), fun v' H3 s3 rv' => ?_⟩
      · rcases hb with hb | rfl
        · cases e1 : H b with
          | none => exact absurd e1 (hS b hb)
          | some o => rw [s2 b o e1]; exact fun z => nomatch z
        · rw [e2]; exact fun z => nomatch z
      · refine ⟨ys, s3 _ _ e2, slineL (by have := lt_of_get hi; omega), ys ++ [v'], same_mut (s2.trans s3) nL, upd_same, by rw [List.length_append, hy]; rfl, ?_⟩
        rw [hidS_upd, List.take_add_one, he]
        exact (ry.to (hidS_mono s3)).app (.cons rv' .nil)
    by_cases hl : tyD d = "list"
    · cases d with
      | none => exact absurd (show ("NoneType" : String) = "list" from hl) (by decide)
      | bool b => exact absurd (show ("bool" : String) = "list" from hl) (by decide)
      | int b => exact absurd (show ("int" : String) = "list" from hl) (by decide)
      | str b => exact absurd (show ("str" : String) = "list" from hl) (by decide)
      | tuple ds => exact absurd (show ("tuple" : String) = "list" from hl) (by decide)
      | dict kvs => exact absurd rfl nd
      | list ds =>
        obtain ⟨lvl, lvx⟩ := lvn_list lv
        cases rv with
        | @lst p xs _ hp ht rx =>
        have hp' := hidS_same.seq hp
        have lx : xs.length ≤ 60 := by rw [rx.len]; exact lvl
        refine ⟨_, rfl, _, _, _, _, _, rfl, .ty "list", rH.ty, kit_ty (kit_list _ nd), _, rfl, iteT ?_⟩
        refine ⟨_, rfl, p, rfl, ⟨_, hp'⟩, fun L nL => ?_⟩
        have nS : ¬ S L := fun z => hS L z nL
        refine lc_list (K := K) (a := p) (xs := xs) (fun i H2 => ∃ ys, Same H H2 ∧ H2 L = some (.lst ys) ∧ ys.length = i ∧ DaAll K (hidS (fun b => S b ∨ b = L) H2) ys (ds.take i)) ⟨[], same_new nL, upd_same, rfl, .nil⟩ (fun i H2 _ ⟨_, s2, _⟩ => s2.seq hp') ?_ ?_
        · intro i y H2 hi w2
          have step := walk L xs ds nL rx lvx lx i y H2 hi w2
          refine ⟨rfl, _, rfl, ?_⟩
          exact step
        · rintro H2 ⟨ys, s2, e2, hy, ry⟩
          rw [rx.len, List.take_length] at ry
          refine q _ _ s2 (Da.newL (by rw [hidS_out nS]; exact e2) (ry.to hidS_less))
    refine ⟨_, rfl, _, _, _, _, _, rfl, .ty "list", rH.ty, kit_ty (kit_list _ nd), _, rfl, ?_⟩
    rw [decide_eq_false hl]
    refine iteF ?_
    by_cases ht : tyD d = "tuple"
    · cases d with
      | none => exact absurd (show ("NoneType" : String) = "tuple" from ht) (by decide)
      | bool b => exact absurd (show ("bool" : String) = "tuple" from ht) (by decide)
      | int b => exact absurd (show ("int" : String) = "tuple" from ht) (by decide)
      | str b => exact absurd (show ("str" : String) = "tuple" from ht) (by decide)
      | list ds => exact absurd (show ("list" : String) = "tuple" from ht) (by decide)
      | dict kvs => exact absurd rfl nd
      | tuple ds =>
        obtain ⟨lvl, lvx⟩ := lvn_tuple lv
        cases rv with
        | @tup p xs _ hp hty rx =>
        have hp' := same_t hidS_same hp
        have lx : xs.length ≤ 60 := by rw [rx.len]; exact lvl
        refine ⟨_, rfl, _, _, _, _, _, rfl, .ty "tuple", rH.ty, kit_ty (kit_tuple _ nd), _, rfl, iteT ?_⟩
        refine ⟨_, rfl, p, rfl, ⟨_, hp'⟩, fun L nL => ?_⟩
        refine lc_tup (K := K) (a := p) (xs := xs) (fun i H2 => ∃ ys, Same H H2 ∧ H2 L = some (.lst ys) ∧ ys.length = i ∧ DaAll K (hidS (fun b => S b ∨ b = L) H2) ys (ds.take i)) ⟨[], same_new nL, upd_same, rfl, .nil⟩ (fun i H2 _ ⟨_, s2, _⟩ => same_t s2 hp') ?_ ?_
        · intro i y H2 hi w2
          have step := walk L xs ds nL rx lvx lx i y H2 hi w2
          refine ⟨rfl, _, rfl, ?_⟩
          exact step
        · rintro H2 ⟨ys, s2, e2, hy, ry⟩
          rw [rx.len, List.take_length] at ry
          refine ⟨L, ys, rfl, .inl ⟨.inl (.inl e2), fun r nr => ?_⟩⟩
          have s3 := same_new (o := .tup ys) nr
          have nSr : ¬ S r := fun z => by
            have h1 := hS r z
            cases e1 : H r with
            | none => exact h1 e1
            | some o => rw [s2 r o e1] at nr; cases nr
          refine q _ _ (s2.trans s3) (Da.newT (by rw [hidS_out nSr]; exact upd_same) ((ry.to hidS_less).to (hidS_mono s3)))
    refine ⟨_, rfl, _, _, _, _, _, rfl, .ty "tuple", rH.ty, kit_ty (kit_tuple _ nd), _, rfl, ?_⟩
    rw [decide_eq_false ht]
    refine iteF ?_
    exact ⟨_, rfl, q _ _ (Same.refl _) rv⟩
theorem has_p_copied (Z : Zs mg) (A : At K mg "copied" s_p_copied ["value"]) : Has P w K mg base "copied" s_p_copied 6 ["value"] (spCopy K 6) := by
  obtain ⟨f, fd, F, mg1, bd⟩ := A
  refine ⟨f, fd, ?_, mg1, F.kp, bd, F⟩
  have G0 : FnOk P w K mg base CX0 0 f fd ["value"] (spCopy K 0) := ⟨fun vs H Q E h => by obtain ⟨v, d, S, rfl, _⟩ := h; rfl, fun A outer s H args us vs Q E hr he hb hv hs => by obtain ⟨v, d, S, rfl, _, _, z, _⟩ := hs; exact z.elim⟩
  exact copied_step Z F mg1 bd 5 (copied_step Z F mg1 bd 4 (copied_step Z F mg1 bd 3 (copied_step Z F mg1 bd 2 (copied_step Z F mg1 bd 1 (copied_step Z F mg1 bd 0 G0)))))
end
end Th
namespace Th
open PySem PySem.Spec PyProof.Rows L2
abbrev s_c_DuplicateName_init : Stmt := inClass (topS 9) 0
theorem sc_c_DuplicateName_init : FnScope ["self", "name"] ["self", "name"] (defScope s_c_DuplicateName_init) := ⟨rfl, rfl, rfl, by decide +kernel, rfl, by decide +kernel, by decide +kernel⟩

section
variable {P : Program} {w : World} {K : PySem.W.Frag} {mg : Str → Option Value} {base : Heap} {CB : Addr}
theorem has_c_DuplicateName_init {fI : Addr} {fd : FuncData} (Z : Zs mg) (F : Fun K "__init__" "DuplicateName.__init__" s_c_DuplicateName_init fI fd) (h_p_copied : Has P w K mg base "copied" s_p_copied 6 ["value"] (spCopy K 6)) : FnOk P w K mg base CX0 7 fI fd ["self", "name"] (spInit1 K "DuplicateName" "name" 6) := by
  obtain ⟨f_p_copied, fd_p_copied, G_p_copied, m_p_copied, k_p_copied, b_p_copied, F_p_copied⟩ := h_p_copied
  refine F.ok sc_c_DuplicateName_init (fun vs H Q E h => ?_) (fun cdv A outer s H vs Q E hr h => ?_)
  · obtain ⟨a, C, v, d, rfl, _⟩ := h
    rfl
  · obtain ⟨a, C, v, d, rfl, G, n1, n2, ea, rv, lv, q⟩ := h
    refine ⟨_, (pss_cons (ps_put (pv 0) (pe_call G_p_copied (hr.mono (by decide)) (by rfl) m_p_copied k_p_copied b_p_copied .nil pass0 (pa_cons (pv 1) pa_nil))) (pss_one (ps_put (pv 0) pe_str))), ?_⟩
    refine ⟨_, rfl, v, d, fun b => b = a, rfl, fun b hb => (by rw [hb, ea]; exact fun z => nomatch z), rv.kd fun b o e p => ?_, lv, fun v' H1 s1 rv' => ?_⟩
    · rw [hidS_out fun z => ?_]
      · exact e
      · rw [z, ea] at e
        exact p.1 _ (Option.some.inj e).symm
    · have ea1 := s1 _ _ ea
      refine ⟨_, rfl, a, C, rfl, G, n1, .inl ⟨ea1, fun dx nd ne => ?_⟩⟩
      refine ⟨_, rfl, a, C, rfl, G, n2, .inr ⟨dx, [("name", v')], upd_same, ?_, (by show 1 ≤ 900; decide), ?_⟩⟩
      · rw [upd_ne ne]; exact upd_same
      · exact q H1 v' dx s1 (rv'.to hidS_same) nd ne
end
end Th
namespace Th
open PySem PySem.Spec PyProof.Rows L2
abbrev s_p_check_different : Stmt := topS 33
theorem sc_p_check_different : FnScope ["names", "at", "name"] ["names"] (defScope s_p_check_different) := ⟨rfl, rfl, rfl, by decide +kernel, rfl, by decide +kernel, by decide +kernel⟩
/-- texts, each once, or an error -/
def spDiff (K : PySem.W.Frag) (mg : Str → Option Value) : Sp := fun vs H Q E => ∃ (a : Addr) (xs : List Str), vs = [.ref a] ∧ SqL K H a (xs.map V.str) ∧ xs.length ≤ 1000 ∧ (∀ x ∈ xs, isNm x = true) ∧
  (dupAt xs = none → ∀ H', Same H H' → Q .non H') ∧ (∀ x, dupAt xs = some x → ∀ cls dd v' H', Same H H' → IsExc K mg "DuplicateName" [("code", .str "DuplicateName"), ("name", v')] cls dd H' → Da K H' v' (.str x) → E cls dd H')
section
variable {P : Program} {w : World} {K : PySem.W.Frag} {mg : Str → Option Value} {base : Heap} {CB : Addr}
theorem has_p_check_different (Z : Zs mg) (A : At K mg "check_different" s_p_check_different ["names"]) (h_c_DuplicateName_init : HasE P w K mg base "DuplicateName" "DuplicateName.__init__" s_c_DuplicateName_init ["self", "name"] ["name", "code"] 7 (spInit1 K "DuplicateName" "name" 6)) : HasX P w K mg base "check_different" s_p_check_different 9 ["names"] (spDiff K mg) := by
  obtain ⟨f, fd, F, mg1, bd⟩ := A
  obtain ⟨C_c_DuplicateName_init, fI_c_DuplicateName_init, fd_c_DuplicateName_init, E_c_DuplicateName_init, G_c_DuplicateName_init⟩ := h_c_DuplicateName_init
  refine ⟨f, fd, ?_, mg1, F.kp, bd, F⟩
  refine F.okX sc_p_check_different (fun vs H Q E h => ?_) (fun cdv A outer s H vs Q E hr h => ?_)
  · obtain ⟨a, xs, rfl, _⟩ := h
    rfl
  · obtain ⟨a, xs, rfl, ha, hl, nm, q1, q2⟩ := h
    refine ⟨_, (pss_one (ps_for (passes_of rfl) rfl (pi_enumLT (by rfl) Z.enumerate_ (pa_cons (pv 0) pa_nil)) (pg_tup (by rfl) (pgs_cons (pg_name (i := 1) sc_p_check_different.nd rfl (Or.inl rfl)) (pgs_cons (pg_name (i := 2) sc_p_check_different.nd rfl (Or.inl rfl)) pgs_nil))) (pss_one (ps_if (pt_cmpR op_in_seq (pv 2) (pe_slice sl_list (pv 0) po_none (po_some (pv 1))) (by rfl)) (pss_one (ps_raise rfl (takes_of rfl rfl rfl rfl) (pmk_new E_c_DuplicateName_init.g E_c_DuplicateName_init.ini E_c_DuplicateName_init.tI G_c_DuplicateName_init (hr.mono (by decide)) E_c_DuplicateName_init.b (by rfl) E_c_DuplicateName_init.m (pa_cons (pv 2) pa_nil)))) pss_nil)))), ?_⟩
    have lm : (xs.map V.str).length = xs.length := List.length_map _
    refine ⟨_, rfl, a, xs.map V.str, rfl, .inl ⟨ha, for_it walk_enum (fun i σ H' => ∃ y1 y2 : Option V, σ = [some (.ref a), y1, y2] ∧ Same H H' ∧ ∀ j y, j < i → xs[j]? = some y → y ∉ xs.take j) ⟨_, _, rfl, Same.refl H, fun j y hj => absurd hj (Nat.not_lt_zero j)⟩ (fun i σ H' _ z => by obtain ⟨_, _, _, s, _⟩ := z; exact s.seq ha) ?_ ?_⟩⟩
    · rintro i x σ H2 H3 _ ⟨y1, y2, rfl, s2, hn⟩ ⟨T, x1, x2, rfl, nT, rfl, e1, e2⟩
      cases e1
      obtain ⟨y, hy, rfl⟩ := getmap e2
      have hyl := lt_of_get hy
      have s3 := s2.trans (same_new (o := .tup [.int (i : Nat), .str y]) nT)
      refine ⟨T, _, rfl, .inl (.inl upd_same), rfl, _, _, rfl, _, _, rfl, rfl, ?_⟩
      refine ⟨_, rfl, _, rfl, _, rfl, (i : Int), rfl, a, _, rfl, s3.seq ha, fun R nR => ?_⟩
      have s4 := s3.trans (same_new (o := .lst (cutV (xs.map V.str) none (some (i : Int)))) nR)
      have ec : cutV (xs.map V.str) none (some (i : Int)) = (xs.take i).map V.str := by rw [cut_to _ (Int.natCast_nonneg i), Int.toNat_natCast, List.map_take]
      rw [ec] at s4 ⊢
      refine ⟨R, _, rfl, .inl (.inl (.inl upd_same)), rfl, flatS _, _, rfl, ?_⟩
      rw [inS]
      refine ite2 (fun hm => ?_) (fun hm => ?_)
      · have hm' : y ∈ xs.take i := by simpa using hm
        refine ⟨_, rfl, ?_⟩
        exact new1 E_c_DuplicateName_init (by decide) (by decide) (.str y) (lv_nm (n := 5) (nm y (List.mem_of_getElem? hy))) fun cls dd v' H' s e' r => q2 y (dupAt_some hy hm' hn) cls dd v' H' (s4.trans s) e' r
      · have hm' : y ∉ xs.take i := by simpa using hm
        refine ⟨_, _, rfl, s4, fun j z hj hz => ?_⟩
        by_cases e : j < i
        · exact hn j z e hz
        · have : j = i := by omega
          subst this
          rw [hy] at hz
          cases hz
          exact hm'
    · rintro σ H2 ⟨y1, y2, rfl, s2, hn⟩
      exact q1 (dupAt_none fun j y hy => hn j y (by rw [lm]; exact lt_of_get hy) hy) H2 s2
end
end Th
namespace Th
open PySem PySem.Spec PyProof.Rows L2
abbrev s_c_InvalidFact_init : Stmt := inClass (topS 7) 0
theorem sc_c_InvalidFact_init : FnScope ["self", "at"] ["self", "at"] (defScope s_c_InvalidFact_init) := ⟨rfl, rfl, rfl, by decide +kernel, rfl, by decide +kernel, by decide +kernel⟩

section
variable {P : Program} {w : World} {K : PySem.W.Frag} {mg : Str → Option Value} {base : Heap} {CB : Addr}
theorem has_c_InvalidFact_init {fI : Addr} {fd : FuncData} (Z : Zs mg) (F : Fun K "__init__" "InvalidFact.__init__" s_c_InvalidFact_init fI fd) (h_p_copied : Has P w K mg base "copied" s_p_copied 6 ["value"] (spCopy K 6)) : FnOk P w K mg base CX0 7 fI fd ["self", "at"] (spInit1 K "InvalidFact" "at" 6) := by
  obtain ⟨f_p_copied, fd_p_copied, G_p_copied, m_p_copied, k_p_copied, b_p_copied, F_p_copied⟩ := h_p_copied
  refine F.ok sc_c_InvalidFact_init (fun vs H Q E h => ?_) (fun cdv A outer s H vs Q E hr h => ?_)
  · obtain ⟨a, C, v, d, rfl, _⟩ := h
    rfl
  · obtain ⟨a, C, v, d, rfl, G, n1, n2, ea, rv, lv, q⟩ := h
    refine ⟨_, (pss_cons (ps_put (pv 0) (pe_call G_p_copied (hr.mono (by decide)) (by rfl) m_p_copied k_p_copied b_p_copied .nil pass0 (pa_cons (pv 1) pa_nil))) (pss_one (ps_put (pv 0) pe_str))), ?_⟩
    refine ⟨_, rfl, v, d, fun b => b = a, rfl, fun b hb => (by rw [hb, ea]; exact fun z => nomatch z), rv.kd fun b o e p => ?_, lv, fun v' H1 s1 rv' => ?_⟩
    · rw [hidS_out fun z => ?_]
      · exact e
      · rw [z, ea] at e
        exact p.1 _ (Option.some.inj e).symm
    · have ea1 := s1 _ _ ea
      refine ⟨_, rfl, a, C, rfl, G, n1, .inl ⟨ea1, fun dx nd ne => ?_⟩⟩
      refine ⟨_, rfl, a, C, rfl, G, n2, .inr ⟨dx, [("at", v')], upd_same, ?_, (by show 1 ≤ 900; decide), ?_⟩⟩
      · rw [upd_ne ne]; exact upd_same
      · exact q H1 v' dx s1 (rv'.to hidS_same) nd ne
end
end Th
namespace Th
open PySem PySem.Spec PyProof.Rows L2
abbrev s_c_TooMany_init : Stmt := inClass (topS 10) 0
theorem sc_c_TooMany_init : FnScope ["self", "most"] ["self", "most"] (defScope s_c_TooMany_init) := ⟨rfl, rfl, rfl, by decide +kernel, rfl, by decide +kernel, by decide +kernel⟩

section
variable {P : Program} {w : World} {K : PySem.W.Frag} {mg : Str → Option Value} {base : Heap} {CB : Addr}
theorem has_c_TooMany_init {fI : Addr} {fd : FuncData} (Z : Zs mg) (F : Fun K "__init__" "TooMany.__init__" s_c_TooMany_init fI fd) (h_p_copied : Has P w K mg base "copied" s_p_copied 6 ["value"] (spCopy K 6)) : FnOk P w K mg base CX0 7 fI fd ["self", "most"] (spInit1 K "TooMany" "most" 6) := by
  obtain ⟨f_p_copied, fd_p_copied, G_p_copied, m_p_copied, k_p_copied, b_p_copied, F_p_copied⟩ := h_p_copied
  refine F.ok sc_c_TooMany_init (fun vs H Q E h => ?_) (fun cdv A outer s H vs Q E hr h => ?_)
  · obtain ⟨a, C, v, d, rfl, _⟩ := h
    rfl
  · obtain ⟨a, C, v, d, rfl, G, n1, n2, ea, rv, lv, q⟩ := h
    refine ⟨_, (pss_cons (ps_put (pv 0) (pe_call G_p_copied (hr.mono (by decide)) (by rfl) m_p_copied k_p_copied b_p_copied .nil pass0 (pa_cons (pv 1) pa_nil))) (pss_one (ps_put (pv 0) pe_str))), ?_⟩
    refine ⟨_, rfl, v, d, fun b => b = a, rfl, fun b hb => (by rw [hb, ea]; exact fun z => nomatch z), rv.kd fun b o e p => ?_, lv, fun v' H1 s1 rv' => ?_⟩
    · rw [hidS_out fun z => ?_]
      · exact e
      · rw [z, ea] at e
        exact p.1 _ (Option.some.inj e).symm
    · have ea1 := s1 _ _ ea
      refine ⟨_, rfl, a, C, rfl, G, n1, .inl ⟨ea1, fun dx nd ne => ?_⟩⟩
      refine ⟨_, rfl, a, C, rfl, G, n2, .inr ⟨dx, [("most", v')], upd_same, ?_, (by show 1 ≤ 900; decide), ?_⟩⟩
      · rw [upd_ne ne]; exact upd_same
      · exact q H1 v' dx s1 (rv'.to hidS_same) nd ne
end
end Th
namespace Th
open PySem PySem.Spec PyProof.Rows L2
abbrev s_c_UnknownFind_init : Stmt := inClass (topS 13) 0
theorem sc_c_UnknownFind_init : FnScope ["self", "name"] ["self", "name"] (defScope s_c_UnknownFind_init) := ⟨rfl, rfl, rfl, by decide +kernel, rfl, by decide +kernel, by decide +kernel⟩

section
variable {P : Program} {w : World} {K : PySem.W.Frag} {mg : Str → Option Value} {base : Heap} {CB : Addr}
theorem has_c_UnknownFind_init {fI : Addr} {fd : FuncData} (Z : Zs mg) (F : Fun K "__init__" "UnknownFind.__init__" s_c_UnknownFind_init fI fd) (h_p_copied : Has P w K mg base "copied" s_p_copied 6 ["value"] (spCopy K 6)) : FnOk P w K mg base CX0 7 fI fd ["self", "name"] (spInit1 K "UnknownFind" "name" 6) := by
  obtain ⟨f_p_copied, fd_p_copied, G_p_copied, m_p_copied, k_p_copied, b_p_copied, F_p_copied⟩ := h_p_copied
  refine F.ok sc_c_UnknownFind_init (fun vs H Q E h => ?_) (fun cdv A outer s H vs Q E hr h => ?_)
  · obtain ⟨a, C, v, d, rfl, _⟩ := h
    rfl
  · obtain ⟨a, C, v, d, rfl, G, n1, n2, ea, rv, lv, q⟩ := h
    refine ⟨_, (pss_cons (ps_put (pv 0) (pe_call G_p_copied (hr.mono (by decide)) (by rfl) m_p_copied k_p_copied b_p_copied .nil pass0 (pa_cons (pv 1) pa_nil))) (pss_one (ps_put (pv 0) pe_str))), ?_⟩
    refine ⟨_, rfl, v, d, fun b => b = a, rfl, fun b hb => (by rw [hb, ea]; exact fun z => nomatch z), rv.kd fun b o e p => ?_, lv, fun v' H1 s1 rv' => ?_⟩
    · rw [hidS_out fun z => ?_]
      · exact e
      · rw [z, ea] at e
        exact p.1 _ (Option.some.inj e).symm
    · have ea1 := s1 _ _ ea
      refine ⟨_, rfl, a, C, rfl, G, n1, .inl ⟨ea1, fun dx nd ne => ?_⟩⟩
      refine ⟨_, rfl, a, C, rfl, G, n2, .inr ⟨dx, [("name", v')], upd_same, ?_, (by show 1 ≤ 900; decide), ?_⟩⟩
      · rw [upd_ne ne]; exact upd_same
      · exact q H1 v' dx s1 (rv'.to hidS_same) nd ne
end
end Th
namespace Th
open PySem PySem.Spec PyProof.Rows L2
abbrev s_p_check_facts : Stmt := topS 42
theorem sc_p_check_facts : FnScope ["finds", "facts", "at", "marked", "mark", "_", "fact", "name"] ["finds", "facts"] (defScope s_p_check_facts) := ⟨rfl, rfl, rfl, by decide +kernel, rfl, by decide +kernel, by decide +kernel⟩
def itemsF : PyData → Option (List PyData)
  | .list ds => some ds
  | .tuple ds => some ds
  | _ => none
theorem seqF {K : PySem.W.Frag} {H : Hp} {v : V} {d : PyData} (r : Da K H v d) (h : tyD d = "list" ∨ tyD d = "tuple") : ∃ b vs ds, v = .ref b ∧ (SqL K H b vs ∨ SqT K H b vs) ∧ DaAll K H vs ds ∧ itemsF d = some ds := by
  cases r with
  | non => rcases h with z | z <;> exact absurd z (by simp [tyD])
  | bl b => rcases h with z | z <;> exact absurd z (by simp [tyD])
  | int b => rcases h with z | z <;> exact absurd z (by simp [tyD])
  | str b => rcases h with z | z <;> exact absurd z (by simp [tyD])
  | lst a b c => exact ⟨_, _, _, rfl, .inl a, c, rfl⟩
  | tup a b c => exact ⟨_, _, _, rfl, .inr a, c, rfl⟩
theorem noseqF {d : PyData} (h : ¬ (tyD d = "list" ∨ tyD d = "tuple")) : itemsF d = none := by
  cases d with
  | list _ => exact absurd (.inl rfl) h
  | tuple _ => exact absurd (.inr rfl) h
  | none => rfl
  | bool _ => rfl
  | int _ => rfl
  | str _ => rfl
  | dict _ => rfl
def markOf : PyData → Str
  | .tuple (m :: _) => strD m
  | _ => Str.empty
def namesOf : PyData → List Str
  | .tuple [_, .tuple (_ :: r)] => r.map strD
  | _ => []
abbrev dueE (c : Str) (v : PyData) : Option (Str × PyData) := some (c, v)
/-- what is wrong with a list of marked facts -/
def fDue (xs : List Str) (d : PyData) : Option (Str × PyData) := match itemsF d with
  | none => dueE "InvalidFact" (.int (-1))
  | some ds => if 30 < ds.length then dueE "TooMany" (.int 30) else match firstIx (fun k => !mfD (ds.getD k .none)) ds.length with
    | some k => dueE "InvalidFact" (.int (k : Int))
    | none => match dupAt (ds.map markOf) with
      | some x => dueE "DuplicateName" (.str x)
      | none => ((ds.flatMap namesOf).find? fun x => !decide (x ∈ xs)).bind fun x => dueE "UnknownFind" (.str x)
def fldOf (c : Str) : Str := if c = "InvalidFact" then "at" else if c = "TooMany" then "most" else "name"
theorem mf_shape {e : PyData} (h : mfD e = true) : ∃ (m t : Str) (rs : List Str), e = .tuple [.str m, .tuple ((t :: rs).map .str)] ∧ isNm m = true ∧ (∀ x ∈ rs, isNm x = true) ∧ markOf e = m ∧ namesOf e = rs := by
  cases e with
  | tuple ds =>
    cases ds with
    | nil => cases h
    | cons a ds =>
      cases ds with
      | nil => cases h
      | cons b ds =>
        cases ds with
        | cons _ _ => cases h
        | nil =>
          obtain ⟨h1, h2⟩ := Bool.and_eq_true_iff.mp (show (nmD a && factD b) = true from h)
          have ea := nmD_str h1
          cases b with
          | tuple fs =>
            cases fs with
            | nil => cases h2
            | cons c r =>
              cases c with
              | str t =>
                rw [factD_str] at h2
                have hr : r.all nmD = true := by
                  split at h2
                  · exact (Bool.and_eq_true_iff.mp h2).2
                  · cases h2
                have er := nms_strs hr
                refine ⟨strD a, t, r.map strD, ?_, ?_, fun x hx => ?_, rfl, rfl⟩
                · rw [ea, List.map_cons, ← er]
                  rfl
                · rw [ea] at h1
                  exact h1
                · obtain ⟨y, hy, rfl⟩ := List.mem_map.mp hx
                  have := List.all_eq_true.mp hr y hy
                  rw [nmD_str this] at this
                  exact this
              | _ => cases h2
          | _ => cases h2
  | _ => cases h
theorem due_none {xs : List Str} {d : PyData} (h : itemsF d = none) : fDue xs d = dueE "InvalidFact" (.int (-1)) := by
  unfold fDue
  rw [h]
theorem due_many {xs : List Str} {d : PyData} {ds : List PyData} (h : itemsF d = some ds) (l : 30 < ds.length) : fDue xs d = dueE "TooMany" (.int 30) := by
  unfold fDue
  rw [h]
  show (if 30 < ds.length then _ else _) = _
  rw [if_pos l]
theorem getDd {ds : List PyData} {k : Nat} {e : PyData} (h : ds[k]? = some e) : ds.getD k .none = e := by
  rw [List.getD_eq_getElem?_getD, h]
  rfl
theorem due_bad {xs : List Str} {d : PyData} {ds : List PyData} (h : itemsF d = some ds) (l : ds.length ≤ 30) {k : Nat} {e : PyData} (hk : ds[k]? = some e) (n : mfD e = false) (a : ∀ (j : Nat) (e' : PyData), j < k → ds[j]? = some e' → mfD e' = true) : fDue xs d = dueE "InvalidFact" (.int (k : Int)) := by
  unfold fDue
  rw [h]
  show (if 30 < ds.length then _ else _) = _
  rw [if_neg (by omega), firstIx_some (lt_of_get hk) (by rw [getDd hk, n]; rfl) fun j hj => ?_]
  obtain ⟨e', he⟩ : ∃ e', ds[j]? = some e' := ⟨_, List.getElem?_eq_getElem (Nat.lt_trans hj (lt_of_get hk))⟩
  rw [getDd he, a j e' hj he]
  rfl
theorem good_ix {ds : List PyData} (a : ∀ (j : Nat) (e' : PyData), ds[j]? = some e' → mfD e' = true) : firstIx (fun k => !mfD (ds.getD k .none)) ds.length = none := firstIx_none fun j hj => by
  obtain ⟨e', he⟩ : ∃ e', ds[j]? = some e' := ⟨_, List.getElem?_eq_getElem hj⟩
  rw [getDd he, a j e' he]
  rfl
theorem due_dup {xs : List Str} {d : PyData} {ds : List PyData} (h : itemsF d = some ds) (l : ds.length ≤ 30) (a : ∀ (j : Nat) (e' : PyData), ds[j]? = some e' → mfD e' = true) {x : Str} (hx : dupAt (ds.map markOf) = some x) : fDue xs d = dueE "DuplicateName" (.str x) := by
  unfold fDue
  rw [h]
  show (if 30 < ds.length then _ else _) = _
  rw [if_neg (by omega), good_ix a]
  show (match dupAt (ds.map markOf) with | some x => dueE "DuplicateName" (.str x) | none => _) = _
  rw [hx]
theorem due_end {xs : List Str} {d : PyData} {ds : List PyData} (h : itemsF d = some ds) (l : ds.length ≤ 30) (a : ∀ (j : Nat) (e' : PyData), ds[j]? = some e' → mfD e' = true) (hx : dupAt (ds.map markOf) = none) : fDue xs d = ((ds.flatMap namesOf).find? fun x => !decide (x ∈ xs)).bind fun x => dueE "UnknownFind" (.str x) := by
  unfold fDue
  rw [h]
  show (if 30 < ds.length then _ else _) = _
  rw [if_neg (by omega), good_ix a]
  show (match dupAt (ds.map markOf) with | some x => dueE "DuplicateName" (.str x) | none => _) = _
  rw [hx]
theorem find_split {p : Str → Bool} {A B : List Str} {x : Str} (a : ∀ y ∈ A, p y = false) (h : p x = true) : (A ++ x :: B).find? p = some x := by
  rw [List.find?_append, List.find?_eq_none.mpr fun y hy => by rw [a y hy]; exact Bool.false_ne_true, List.find?_cons, h]
  rfl
theorem flat_at {ds : List PyData} {i : Nat} {e : PyData} (h : ds[i]? = some e) : ds.flatMap namesOf = (ds.take i).flatMap namesOf ++ (namesOf e ++ (ds.drop (i + 1)).flatMap namesOf) := by
  have e1 : ds = ds.take i ++ e :: ds.drop (i + 1) := by
    have hl := lt_of_get h
    have : ds[i] = e := Option.some.inj ((List.getElem?_eq_getElem hl).symm.trans h)
    conv => lhs; rw [← List.take_append_drop i ds, List.drop_eq_getElem_cons hl]
    rw [this]
  conv => lhs; rw [e1]
  rw [List.flatMap_append, List.flatMap_cons]

/-- a list of marked facts about finds, or an error -/
def spCheckF (K : PySem.W.Frag) (mg : Str → Option Value) : Sp := fun vs H Q E => ∃ (a : Addr) (xs : List Str) (v : V) (d : PyData), vs = [.ref a, v] ∧ SqL K H a (xs.map V.str) ∧ Da K H v d ∧ (∀ ds, itemsF d = some ds → ∀ e ∈ ds, Lv 6 e) ∧
  (fDue xs d = none → ∀ H', Same H H' → Q .non H') ∧
  (∀ c val, fDue xs d = some (c, val) → ∀ cls dd v' H', Same H H' → IsExc K mg c [("code", .str c), (fldOf c, v')] cls dd H' → Da K H' v' val → E cls dd H')
section
variable {P : Program} {w : World} {K : PySem.W.Frag} {mg : Str → Option Value} {base : Heap} {CB : Addr}
theorem has_p_check_facts (Z : Zs mg) (gMX : ∃ t, mg "MOST_FACTS" = some (.int 30 t)) (A : At K mg "check_facts" s_p_check_facts ["finds", "facts"]) (h_p_is_listed : Has P w K mg base "is_listed" s_p_is_listed 1 ["value"] (spSeqQ K)) (h_p_is_marked_fact : Has P w K mg base "is_marked_fact" s_p_is_marked_fact 4 ["value"] (spJ K 6 mfD)) (h_p_names_in : Has P w K mg base "names_in" s_p_names_in 1 ["fact"] (spNamesIn K)) (h_p_check_different : HasX P w K mg base "check_different" s_p_check_different 9 ["names"] (spDiff K mg)) (h_c_InvalidFact_init : HasE P w K mg base "InvalidFact" "InvalidFact.__init__" s_c_InvalidFact_init ["self", "at"] ["at", "code"] 7 (spInit1 K "InvalidFact" "at" 6)) (h_c_TooMany_init : HasE P w K mg base "TooMany" "TooMany.__init__" s_c_TooMany_init ["self", "most"] ["most", "code"] 7 (spInit1 K "TooMany" "most" 6)) (h_c_UnknownFind_init : HasE P w K mg base "UnknownFind" "UnknownFind.__init__" s_c_UnknownFind_init ["self", "name"] ["name", "code"] 7 (spInit1 K "UnknownFind" "name" 6)) : HasX P w K mg base "check_facts" s_p_check_facts 10 ["finds", "facts"] (spCheckF K mg) := by
  obtain ⟨f, fd, F, mg1, bd⟩ := A
  obtain ⟨f_p_is_listed, fd_p_is_listed, G_p_is_listed, m_p_is_listed, k_p_is_listed, b_p_is_listed, F_p_is_listed⟩ := h_p_is_listed
  obtain ⟨f_p_is_marked_fact, fd_p_is_marked_fact, G_p_is_marked_fact, m_p_is_marked_fact, k_p_is_marked_fact, b_p_is_marked_fact, F_p_is_marked_fact⟩ := h_p_is_marked_fact
  obtain ⟨f_p_names_in, fd_p_names_in, G_p_names_in, m_p_names_in, k_p_names_in, b_p_names_in, F_p_names_in⟩ := h_p_names_in
  obtain ⟨f_p_check_different, fd_p_check_different, G_p_check_different, m_p_check_different, k_p_check_different, b_p_check_different, F_p_check_different⟩ := h_p_check_different
  obtain ⟨C_c_InvalidFact_init, fI_c_InvalidFact_init, fd_c_InvalidFact_init, E_c_InvalidFact_init, G_c_InvalidFact_init⟩ := h_c_InvalidFact_init
  obtain ⟨C_c_TooMany_init, fI_c_TooMany_init, fd_c_TooMany_init, E_c_TooMany_init, G_c_TooMany_init⟩ := h_c_TooMany_init
  obtain ⟨C_c_UnknownFind_init, fI_c_UnknownFind_init, fd_c_UnknownFind_init, E_c_UnknownFind_init, G_c_UnknownFind_init⟩ := h_c_UnknownFind_init
  obtain ⟨tMX, g_MOST_FACTS⟩ := gMX
  refine ⟨f, fd, ?_, mg1, F.kp, bd, F⟩
  refine F.okX sc_p_check_facts (fun vs H Q E h => ?_) (fun cdv A outer s H vs Q E hr h => ?_)
  · obtain ⟨a, xs, v, d, rfl, _⟩ := h
    rfl
  · obtain ⟨a, xs, v, d, rfl, ha, rv, hlv0, q1, q2⟩ := h
    refine ⟨_, (pss_cons (ps_if (pt_not (pt_val (pe_call G_p_is_listed (hr.mono (by decide)) (by rfl) m_p_is_listed k_p_is_listed b_p_is_listed .nil pass0 (pa_cons (pv 1) pa_nil)))) (pss_one (ps_raise rfl (takes_of rfl rfl rfl rfl) (pmk_new E_c_InvalidFact_init.g E_c_InvalidFact_init.ini E_c_InvalidFact_init.tI G_c_InvalidFact_init (hr.mono (by decide)) E_c_InvalidFact_init.b (by rfl) E_c_InvalidFact_init.m (pa_cons (pe_un un_neg pe_int) pa_nil)))) pss_nil) (pss_cons (ps_if (pt_cmpR op_gt (pe_callB call_len_seq (by rfl) Z.len_ (by decide +kernel) (pa_cons (pv 1) pa_nil)) (pe_glob (v := .int 30) (by rfl) g_MOST_FACTS ⟨_, rfl⟩) (nomark _)) (pss_one (ps_raise rfl (takes_of rfl rfl rfl rfl) (pmk_new E_c_TooMany_init.g E_c_TooMany_init.ini E_c_TooMany_init.tI G_c_TooMany_init (hr.mono (by decide)) E_c_TooMany_init.b (by rfl) E_c_TooMany_init.m (pa_cons (pe_glob (v := .int 30) (by rfl) g_MOST_FACTS ⟨_, rfl⟩) pa_nil)))) pss_nil) (pss_cons (ps_for (passes_of rfl) rfl (pi_enumLT (by rfl) Z.enumerate_ (pa_cons (pv 1) pa_nil)) (pg_tup (by rfl) (pgs_cons (pg_name (i := 2) sc_p_check_facts.nd rfl (Or.inl rfl)) (pgs_cons (pg_name (i := 3) sc_p_check_facts.nd rfl (Or.inl rfl)) pgs_nil))) (pss_one (ps_if (pt_not (pt_val (pe_call G_p_is_marked_fact (hr.mono (by decide)) (by rfl) m_p_is_marked_fact k_p_is_marked_fact b_p_is_marked_fact .nil pass0 (pa_cons (pv 3) pa_nil)))) (pss_one (ps_raise rfl (takes_of rfl rfl rfl rfl) (pmk_new E_c_InvalidFact_init.g E_c_InvalidFact_init.ini E_c_InvalidFact_init.tI G_c_InvalidFact_init (hr.mono (by decide)) E_c_InvalidFact_init.b (by rfl) E_c_InvalidFact_init.m (pa_cons (pv 2) pa_nil)))) pss_nil))) (pss_cons (ps_expr (pe_call G_p_check_different (hr.mono (by decide)) (by rfl) m_p_check_different k_p_check_different b_p_check_different .nil (passes_call (takes_of rfl rfl rfl rfl) fun _ _ _ _ h => h) (pa_cons (pe_lc (own := [("mark", 4), ("_", 5)]) (g := gTup K 2 (gCons (gName 4) (gCons (gName 5) gNil))) (by rfl) sc_p_check_facts.nd (pi_LT (pv 1)) (blkOk_by (own := [("mark", 4), ("_", 5)]) (N := ["finds", "facts", "at", "marked", "mark", "_", "fact", "name"]) (sc := defScope s_p_check_facts) (by decide +kernel)) (fun _ _ _ _ _ => (pg_tup (by rfl) (pgs_cons (pg_name (i := 4) sc_p_check_facts.nd rfl (Or.inl rfl)) (pgs_cons (pg_name (i := 5) sc_p_check_facts.nd rfl (Or.inl rfl)) pgs_nil)))) (fun _ _ _ _ _ => pts_nil) (fun _ _ _ _ _ => (pv 4))) pa_nil))) (pss_one (ps_for (passes_of rfl) rfl (pi_LT (pv 1)) (pg_tup (by rfl) (pgs_cons (pg_name (i := 5) sc_p_check_facts.nd rfl (Or.inl rfl)) (pgs_cons (pg_name (i := 6) sc_p_check_facts.nd rfl (Or.inl rfl)) pgs_nil))) (pss_one (ps_for (passes_of rfl) rfl (pi_list (pe_call G_p_names_in (hr.mono (by decide)) (by rfl) m_p_names_in k_p_names_in b_p_names_in .nil pass0 (pa_cons (pv 6) pa_nil))) (pg_name (i := 7) sc_p_check_facts.nd rfl (Or.inl rfl)) (pss_one (ps_if (pt_cmpR op_notIn_seq (pv 7) (pv 0) (by rfl)) (pss_one (ps_raise rfl (takes_of rfl rfl rfl rfl) (pmk_new E_c_UnknownFind_init.g E_c_UnknownFind_init.ini E_c_UnknownFind_init.tI G_c_UnknownFind_init (hr.mono (by decide)) E_c_UnknownFind_init.b (by rfl) E_c_UnknownFind_init.m (pa_cons (pv 7) pa_nil)))) pss_nil)))))))))), ?_⟩
    refine ⟨_, rfl, v, d, rfl, rv, fun H1 s1 => ⟨_, rfl, ite2 (fun z => ?_) (fun z => ?_)⟩⟩
    · have hn := noseqF (d := d) (fun w => by rw [decide_eq_true w] at z; cases z)
      refine ⟨_, rfl, ?_⟩
      exact new1 E_c_InvalidFact_init (by decide) (by decide) (.int (-1)) trivial fun cls dd v' H' s e r => q2 _ _ (due_none hn) cls dd v' H' (s1.trans s) e r
    obtain ⟨b, vs, ds, rfl, hq, al, hi⟩ := seqF (rv.to s1) (Classical.byContradiction fun w => z (by rw [decide_eq_false w]; rfl))
    have hlv := hlv0 ds hi
    refine ⟨_, rfl, b, vs, rfl, hq, _, _, rfl, rfl, _, rfl, ite2 (fun z => ?_) (fun z => ?_)⟩
    · have hlen : 30 < ds.length := by
        have z := of_decide_eq_true z
        rw [al.len] at z
        omega
      exact new1 E_c_TooMany_init (by decide) (by decide) (.int 30) trivial fun cls dd v' H' s e r => q2 _ _ (due_many hi hlen) cls dd v' H' (s1.trans s) e r
    have hl : ds.length ≤ 30 := by
      have z : ¬ ((vs.length : Nat) : Int) > 30 := fun w => z (decide_eq_true w)
      rw [al.len] at z
      omega
    rcases hq with hq | hq
    · skip
      refine ⟨_, rfl, b, vs, rfl, .inl ⟨hq, for_it walk_enum (fun i σ H' => ∃ y1 y2 : Option V, σ = [some (.ref a), some (.ref b), y1, y2, none, none, none, none] ∧ Same H1 H' ∧ ∀ j e, j < i → ds[j]? = some e → mfD e = true) ⟨_, _, rfl, Same.refl H1, fun j e hj => absurd hj (Nat.not_lt_zero j)⟩ (fun i σ H' _ z => by obtain ⟨_, _, _, s, _⟩ := z; exact Same.seq s hq) ?_ ?_⟩⟩
      · rintro i x σ H2 H3 _ ⟨y1, y2, rfl, s2, hn⟩ ⟨T, x1, x2, rfl, nT, rfl, e1, e2⟩
        cases e1
        obtain ⟨e, he, re⟩ := (al.to s2).at e2
        have s3 := same_new (o := .tup [.int (i : Nat), x2]) nT
        refine ⟨T, _, rfl, .inl (.inl upd_same), rfl, _, _, rfl, _, _, rfl, rfl, ?_⟩
        refine ⟨_, rfl, x2, e, rfl, re.to s3, hlv e (List.mem_of_getElem? he), fun H4 s4 => ?_⟩
        have s5 := s2.trans (s3.trans s4)
        refine ⟨_, rfl, ite2 (fun hm => ?_) (fun hm => ?_)⟩
        · have hm' : mfD e = false := by simpa using hm
          refine ⟨_, rfl, ?_⟩
          exact new1 E_c_InvalidFact_init (by decide) (by decide) (.int (i : Int)) trivial fun cls dd v' H' s e' r => q2 _ _ (due_bad hi hl he hm' hn) cls dd v' H' ((s1.trans s5).trans s) e' r
        · have hm' : mfD e = true := by simpa using hm
          refine ⟨_, _, rfl, s5, fun j e' hj he' => ?_⟩
          rcases Nat.lt_succ_iff_lt_or_eq.mp hj with z | z
          · exact hn j e' z he'
          · rw [z, he] at he'
            cases he'
            exact hm'
      rintro σ H2 ⟨y1, y2, rfl, s2, hn⟩
      have hall : ∀ j e', ds[j]? = some e' → mfD e' = true := fun j e' he => hn j e' (by rw [al.len]; exact lt_of_get he) he
      have shp : ∀ (j : Nat) (x : V) (H' : Hp), Same H1 H' → vs[j]? = some x → ∃ (p q : Addr) (m t : Str) (rs : List Str), x = .ref p ∧ SqT K H' p [.str m, .ref q] ∧ SqT K H' q ((t :: rs).map V.str) ∧ isNm m = true ∧ (∀ x ∈ rs, isNm x = true) ∧ ∃ e, ds[j]? = some e ∧ markOf e = m ∧ namesOf e = rs := fun j x H' s hx => by
        obtain ⟨e, he, re⟩ := (al.to s).at hx
        obtain ⟨m, t, rs, rfl, nm, nr, em, en⟩ := mf_shape (hall j e he)
        cases re with
        | tup sq ty ra =>
          cases ra with
          | cons r1 ra =>
            cases r1
            cases ra with
            | cons r2 ra =>
              cases ra
              cases r2 with
              | tup sq2 ty2 ra2 =>
                have ev := ra2.isStrs
                subst ev
                exact ⟨_, _, m, t, rs, rfl, sq, sq2, nm, nr, _, he, em, en⟩
      -- the marks
      have lvs := al.len
      refine ⟨_, rfl, b, vs, rfl, .inl ⟨Same.seq s2 hq, fun L nL => ?_⟩⟩
      refine lc_list (K := K) (a := b) (xs := vs) (fun i H4 => Same H2 H4 ∧ H4 L = some (.lst (((ds.map markOf).take i).map V.str))) ⟨same_new nL, upd_same⟩ (fun i H4 _ z => Same.seq (s2.trans z.1) hq) ?_ ?_
      · rintro i x H4 hx ⟨s4, e4⟩
        obtain ⟨p, q', m, t, rs, rfl, sq, _, _, _, e, he, em, _⟩ := shp i x H4 (s2.trans s4) hx
        refine ⟨p, _, rfl, sq, rfl, _, _, rfl, _, _, rfl, rfl, rfl, _, rfl, _, e4, slineL (by rw [List.length_map, List.length_take, List.length_map]; omega), same_mut s4 nL, ?_⟩
        rw [upd_same, take_succ_map (f := V.str) (x := m) (by rw [List.getElem?_map, he, ← em]; rfl)]
      rintro H4 ⟨s4, e4⟩
      rw [List.take_of_length_le (by rw [List.length_map, lvs]; exact Nat.le_refl _)] at e4
      have nmk : ∀ x ∈ ds.map markOf, isNm x = true := fun x hx => by
        obtain ⟨e, he, rfl⟩ := List.mem_map.mp hx
        obtain ⟨j, hj⟩ := List.getElem?_of_mem he
        obtain ⟨m, t, rs, _, nm, _, em, _⟩ := mf_shape (hall j e hj)
        rw [em]
        exact nm
      have s14 := s1.trans (s2.trans s4)
      refine ⟨L, ds.map markOf, rfl, .inl (.inl e4), by rw [List.length_map]; omega, nmk, fun hd H5 s5 => ?_, fun x hd cls dd v' H5 s5 ie rv' => q2 _ _ (due_dup hi hl hall hd) cls dd v' H5 (s14.trans s5) ie rv'⟩
      have s25 := s2.trans (s4.trans s5)
      have due := due_end (xs := xs) hi hl hall hd
      -- the names
      refine ⟨_, rfl, b, vs, rfl, .inl ⟨Same.seq s25 hq, for_list (K := K) (a := b) (xs := vs) (fun i σ H' => ∃ y2 y3 y5 y6 y7 : Option V, σ = [some (.ref a), some (.ref b), y2, y3, none, y5, y6, y7] ∧ Same H1 H' ∧ ∀ x ∈ (ds.take i).flatMap namesOf, x ∈ xs) ⟨_, _, _, _, _, rfl, s25, fun x hx => nomatch hx⟩ (fun i σ H' _ z => by obtain ⟨_, _, _, _, _, _, s, _⟩ := z; exact Same.seq s hq) ?_ ?_⟩⟩
      · rintro i x σ H6 hx ⟨y2, y3, y5, y6, y7, rfl, s6, hin⟩
        obtain ⟨p, q', m, t, rs, rfl, sq, sq2, _, nr, e, he, em, en⟩ := shp i x H6 s6 hx
        refine ⟨p, _, rfl, sq, rfl, _, _, rfl, _, _, rfl, rfl, ?_⟩
        refine ⟨_, rfl, q', t :: rs, rfl, sq2, List.cons_ne_nil _ _, fun R H7 s7 nR eR => ?_⟩
        have s67 := s6.trans s7
        refine ⟨R, rfl, ⟨_, .inl (.inl eR)⟩, for_list (K := K) (a := R) (xs := rs.map V.str) (fun j σ H' => ∃ y7 : Option V, σ = [some (.ref a), some (.ref b), y2, y3, none, some (.str m), some (.ref q'), y7] ∧ Same H7 H' ∧ ∀ x ∈ rs.take j, x ∈ xs) ⟨_, rfl, Same.refl H7, fun x hx => nomatch hx⟩ (fun j σ H' _ z => by obtain ⟨_, _, s, _⟩ := z; exact .inl (.inl (s _ _ eR))) ?_ ?_⟩
        · rintro j y σ H8 hj ⟨y7', rfl, s8, hin2⟩
          obtain ⟨z, hz, rfl⟩ := getmap hj
          have s18 := s67.trans s8
          refine ⟨_, rfl, _, rfl, a, _, rfl, .inl ((s1.trans s18).seq ha), rfl, flatS _, _, rfl, ?_⟩
          rw [inS]
          refine ite2 (fun hm => ?_) (fun hm => ?_)
          · have hm' : z ∉ xs := by simpa using hm
            refine ⟨_, rfl, ?_⟩
            have erest : rs = rs.take j ++ z :: rs.drop (j + 1) := by
              have hlj := lt_of_get hz
              conv => lhs; rw [← List.take_append_drop j rs, List.drop_eq_getElem_cons hlj]
              rw [Option.some.inj ((List.getElem?_eq_getElem hlj).symm.trans hz)]
            have hd2 : fDue xs d = dueE "UnknownFind" (.str z) := by
              rw [due, flat_at he, en, erest, List.append_assoc, List.cons_append, ← List.append_assoc, find_split (fun y hy => ?_) (by simpa using hm')]
              · rfl
              · rcases List.mem_append.mp hy with h | h
                · simpa using hin y h
                · simpa using hin2 y h
            exact new1 E_c_UnknownFind_init (by decide) (by decide) (.str z) (lv_nm (n := 5) (nr z (List.mem_of_getElem? hz))) fun cls dd v' H' s e' r => q2 _ _ hd2 cls dd v' H' ((s1.trans s18).trans s) e' r
          · have hm' : z ∈ xs := by simpa using hm
            refine ⟨_, rfl, s8, fun x hx => ?_⟩
            rw [List.take_add_one, hz] at hx
            rcases List.mem_append.mp hx with h | h
            · exact hin2 x h
            · rw [List.mem_singleton.mp h]
              exact hm'
        · rintro σ H8 ⟨y7', rfl, s8, hin2⟩
          rw [List.length_map, List.take_length] at hin2
          refine ⟨_, _, _, _, _, rfl, s67.trans s8, fun x hx => ?_⟩
          rw [List.take_add_one, he, List.flatMap_append] at hx
          rcases List.mem_append.mp hx with h | h
          · exact hin x h
          · refine hin2 x ?_
            rw [← en]
            simpa using h
      · rintro σ H6 ⟨y2, y3, y5, y6, y7, rfl, s6, hin⟩
        rw [lvs, List.take_length] at hin
        refine q1 ?_ H6 (s1.trans s6)
        rw [due, List.find?_eq_none.mpr fun x hx => by simpa using hin x hx]
        rfl
    · skip
      refine ⟨_, rfl, b, vs, rfl, .inr ⟨hq, for_it walk_enumT (fun i σ H' => ∃ y1 y2 : Option V, σ = [some (.ref a), some (.ref b), y1, y2, none, none, none, none] ∧ Same H1 H' ∧ ∀ j e, j < i → ds[j]? = some e → mfD e = true) ⟨_, _, rfl, Same.refl H1, fun j e hj => absurd hj (Nat.not_lt_zero j)⟩ (fun i σ H' _ z => by obtain ⟨_, _, _, s, _⟩ := z; exact same_t s hq) ?_ ?_⟩⟩
      · rintro i x σ H2 H3 _ ⟨y1, y2, rfl, s2, hn⟩ ⟨T, x1, x2, rfl, nT, rfl, e1, e2⟩
        cases e1
        obtain ⟨e, he, re⟩ := (al.to s2).at e2
        have s3 := same_new (o := .tup [.int (i : Nat), x2]) nT
        refine ⟨T, _, rfl, .inl (.inl upd_same), rfl, _, _, rfl, _, _, rfl, rfl, ?_⟩
        refine ⟨_, rfl, x2, e, rfl, re.to s3, hlv e (List.mem_of_getElem? he), fun H4 s4 => ?_⟩
        have s5 := s2.trans (s3.trans s4)
        refine ⟨_, rfl, ite2 (fun hm => ?_) (fun hm => ?_)⟩
        · have hm' : mfD e = false := by simpa using hm
          refine ⟨_, rfl, ?_⟩
          exact new1 E_c_InvalidFact_init (by decide) (by decide) (.int (i : Int)) trivial fun cls dd v' H' s e' r => q2 _ _ (due_bad hi hl he hm' hn) cls dd v' H' ((s1.trans s5).trans s) e' r
        · have hm' : mfD e = true := by simpa using hm
          refine ⟨_, _, rfl, s5, fun j e' hj he' => ?_⟩
          rcases Nat.lt_succ_iff_lt_or_eq.mp hj with z | z
          · exact hn j e' z he'
          · rw [z, he] at he'
            cases he'
            exact hm'
      rintro σ H2 ⟨y1, y2, rfl, s2, hn⟩
      have hall : ∀ j e', ds[j]? = some e' → mfD e' = true := fun j e' he => hn j e' (by rw [al.len]; exact lt_of_get he) he
      have shp : ∀ (j : Nat) (x : V) (H' : Hp), Same H1 H' → vs[j]? = some x → ∃ (p q : Addr) (m t : Str) (rs : List Str), x = .ref p ∧ SqT K H' p [.str m, .ref q] ∧ SqT K H' q ((t :: rs).map V.str) ∧ isNm m = true ∧ (∀ x ∈ rs, isNm x = true) ∧ ∃ e, ds[j]? = some e ∧ markOf e = m ∧ namesOf e = rs := fun j x H' s hx => by
        obtain ⟨e, he, re⟩ := (al.to s).at hx
        obtain ⟨m, t, rs, rfl, nm, nr, em, en⟩ := mf_shape (hall j e he)
        cases re with
        | tup sq ty ra =>
          cases ra with
          | cons r1 ra =>
            cases r1
            cases ra with
            | cons r2 ra =>
              cases ra
              cases r2 with
              | tup sq2 ty2 ra2 =>
                have ev := ra2.isStrs
                subst ev
                exact ⟨_, _, m, t, rs, rfl, sq, sq2, nm, nr, _, he, em, en⟩
      -- the marks
      have lvs := al.len
      refine ⟨_, rfl, b, vs, rfl, .inr ⟨same_t s2 hq, fun L nL => ?_⟩⟩
      refine lc_tup (K := K) (a := b) (xs := vs) (fun i H4 => Same H2 H4 ∧ H4 L = some (.lst (((ds.map markOf).take i).map V.str))) ⟨same_new nL, upd_same⟩ (fun i H4 _ z => same_t (s2.trans z.1) hq) ?_ ?_
      · rintro i x H4 hx ⟨s4, e4⟩
        obtain ⟨p, q', m, t, rs, rfl, sq, _, _, _, e, he, em, _⟩ := shp i x H4 (s2.trans s4) hx
        refine ⟨p, _, rfl, sq, rfl, _, _, rfl, _, _, rfl, rfl, rfl, _, rfl, _, e4, slineL (by rw [List.length_map, List.length_take, List.length_map]; omega), same_mut s4 nL, ?_⟩
        rw [upd_same, take_succ_map (f := V.str) (x := m) (by rw [List.getElem?_map, he, ← em]; rfl)]
      rintro H4 ⟨s4, e4⟩
      rw [List.take_of_length_le (by rw [List.length_map, lvs]; exact Nat.le_refl _)] at e4
      have nmk : ∀ x ∈ ds.map markOf, isNm x = true := fun x hx => by
        obtain ⟨e, he, rfl⟩ := List.mem_map.mp hx
        obtain ⟨j, hj⟩ := List.getElem?_of_mem he
        obtain ⟨m, t, rs, _, nm, _, em, _⟩ := mf_shape (hall j e hj)
        rw [em]
        exact nm
      have s14 := s1.trans (s2.trans s4)
      refine ⟨L, ds.map markOf, rfl, .inl (.inl e4), by rw [List.length_map]; omega, nmk, fun hd H5 s5 => ?_, fun x hd cls dd v' H5 s5 ie rv' => q2 _ _ (due_dup hi hl hall hd) cls dd v' H5 (s14.trans s5) ie rv'⟩
      have s25 := s2.trans (s4.trans s5)
      have due := due_end (xs := xs) hi hl hall hd
      -- the names
      refine ⟨_, rfl, b, vs, rfl, .inr ⟨same_t s25 hq, for_tup (K := K) (a := b) (xs := vs) (fun i σ H' => ∃ y2 y3 y5 y6 y7 : Option V, σ = [some (.ref a), some (.ref b), y2, y3, none, y5, y6, y7] ∧ Same H1 H' ∧ ∀ x ∈ (ds.take i).flatMap namesOf, x ∈ xs) ⟨_, _, _, _, _, rfl, s25, fun x hx => nomatch hx⟩ (fun i σ H' _ z => by obtain ⟨_, _, _, _, _, _, s, _⟩ := z; exact same_t s hq) ?_ ?_⟩⟩
      · rintro i x σ H6 hx ⟨y2, y3, y5, y6, y7, rfl, s6, hin⟩
        obtain ⟨p, q', m, t, rs, rfl, sq, sq2, _, nr, e, he, em, en⟩ := shp i x H6 s6 hx
        refine ⟨p, _, rfl, sq, rfl, _, _, rfl, _, _, rfl, rfl, ?_⟩
        refine ⟨_, rfl, q', t :: rs, rfl, sq2, List.cons_ne_nil _ _, fun R H7 s7 nR eR => ?_⟩
        have s67 := s6.trans s7
        refine ⟨R, rfl, ⟨_, .inl (.inl eR)⟩, for_list (K := K) (a := R) (xs := rs.map V.str) (fun j σ H' => ∃ y7 : Option V, σ = [some (.ref a), some (.ref b), y2, y3, none, some (.str m), some (.ref q'), y7] ∧ Same H7 H' ∧ ∀ x ∈ rs.take j, x ∈ xs) ⟨_, rfl, Same.refl H7, fun x hx => nomatch hx⟩ (fun j σ H' _ z => by obtain ⟨_, _, s, _⟩ := z; exact .inl (.inl (s _ _ eR))) ?_ ?_⟩
        · rintro j y σ H8 hj ⟨y7', rfl, s8, hin2⟩
          obtain ⟨z, hz, rfl⟩ := getmap hj
          have s18 := s67.trans s8
          refine ⟨_, rfl, _, rfl, a, _, rfl, .inl ((s1.trans s18).seq ha), rfl, flatS _, _, rfl, ?_⟩
          rw [inS]
          refine ite2 (fun hm => ?_) (fun hm => ?_)
          · have hm' : z ∉ xs := by simpa using hm
            refine ⟨_, rfl, ?_⟩
            have erest : rs = rs.take j ++ z :: rs.drop (j + 1) := by
              have hlj := lt_of_get hz
              conv => lhs; rw [← List.take_append_drop j rs, List.drop_eq_getElem_cons hlj]
              rw [Option.some.inj ((List.getElem?_eq_getElem hlj).symm.trans hz)]
            have hd2 : fDue xs d = dueE "UnknownFind" (.str z) := by
              rw [due, flat_at he, en, erest, List.append_assoc, List.cons_append, ← List.append_assoc, find_split (fun y hy => ?_) (by simpa using hm')]
              · rfl
              · rcases List.mem_append.mp hy with h | h
                · simpa using hin y h
                · simpa using hin2 y h
            exact new1 E_c_UnknownFind_init (by decide) (by decide) (.str z) (lv_nm (n := 5) (nr z (List.mem_of_getElem? hz))) fun cls dd v' H' s e' r => q2 _ _ hd2 cls dd v' H' ((s1.trans s18).trans s) e' r
          · have hm' : z ∈ xs := by simpa using hm
            refine ⟨_, rfl, s8, fun x hx => ?_⟩
            rw [List.take_add_one, hz] at hx
            rcases List.mem_append.mp hx with h | h
            · exact hin2 x h
            · rw [List.mem_singleton.mp h]
              exact hm'
        · rintro σ H8 ⟨y7', rfl, s8, hin2⟩
          rw [List.length_map, List.take_length] at hin2
          refine ⟨_, _, _, _, _, rfl, s67.trans s8, fun x hx => ?_⟩
          rw [List.take_add_one, he, List.flatMap_append] at hx
          rcases List.mem_append.mp hx with h | h
          · exact hin x h
          · refine hin2 x ?_
            rw [← en]
            simpa using h
      · rintro σ H6 ⟨y2, y3, y5, y6, y7, rfl, s6, hin⟩
        rw [lvs, List.take_length] at hin
        refine q1 ?_ H6 (s1.trans s6)
        rw [due, List.find?_eq_none.mpr fun x hx => by simpa using hin x hx]
        rfl
end
end Th
namespace Th
open PySem PySem.Spec PyProof.Rows L2
abbrev s_l_facts_due : Stmt := topS 96
theorem sc_l_facts_due : FnScope ["_law_pool", "_law_x", "_law_bad", "_law_k", "_law_labels", "_law_item", "_law_twice", "_law_tag"] ["_law_pool", "_law_x"] (defScope s_l_facts_due) := ⟨rfl, rfl, rfl, by decide +kernel, rfl, by decide +kernel, by decide +kernel⟩
def dueD : Option (Str × PyData) → PyData
  | none => .tuple [.str "told", .none]
  | some (c, val) => .tuple [.str "no", .str c, val]
theorem cut1F (x : V) (xs : List V) : cutV (x :: xs) (some 1) none = xs := by
  unfold cutV
  rw [HT.sIx_none, show HT.sIx (x :: xs).length 0 (some 1) = min 1 (x :: xs).length from HT.sIx_nat _ 0 1, show min 1 (x :: xs).length = 1 by rw [List.length_cons]; omega]
  show (List.take ((x :: xs).length - 1) xs) = xs
  rw [List.length_cons, Nat.add_sub_cancel]
  exact List.take_length
/-- what is told of a list of facts -/
def spFactsDue (K : PySem.W.Frag) : Sp := fun vs H Q _ => ∃ (a : Addr) (xs : List Str) (v : V) (d : PyData), vs = [.ref a, v] ∧ SqL K H a (xs.map V.str) ∧ Da K H v d ∧ (∀ ds, itemsF d = some ds → ∀ e ∈ ds, Lv 6 e) ∧
  ∀ r H', Same H H' → Da K H' r (dueD (fDue xs d)) → Q r H'
section
variable {P : Program} {w : World} {K : PySem.W.Frag} {mg : Str → Option Value} {base : Heap} {CB : Addr}
theorem has_l_facts_due (Z : Zs mg) (A : At K mg "_law_facts_due" s_l_facts_due ["_law_pool", "_law_x"]) (h_l_is_marked : Has P w K mg base "_law_is_marked" s_l_is_marked 4 ["_law_x"] (spJ K 6 mfD)) : Has P w K mg base "_law_facts_due" s_l_facts_due 7 ["_law_pool", "_law_x"] (spFactsDue K) := by
  obtain ⟨f, fd, F, mg1, bd⟩ := A
  obtain ⟨f_l_is_marked, fd_l_is_marked, G_l_is_marked, m_l_is_marked, k_l_is_marked, b_l_is_marked, F_l_is_marked⟩ := h_l_is_marked
  refine ⟨f, fd, ?_, mg1, F.kp, bd, F⟩
  refine F.ok sc_l_facts_due (fun vs H Q E h => ?_) (fun cdv A outer s H vs Q E hr h => ?_)
  · obtain ⟨a, xs, v, d, rfl, _⟩ := h
    rfl
  · obtain ⟨a, xs, v, d, rfl, ha, rv, hlv0, q⟩ := h
    refine ⟨_, (pss_cons (ps_if (pt_not (pt_val (pe_callB (show CallR _ (.builtin "isinstance") (rIsiT K) from call_isiT) (by rfl) Z.isinstance_ (by decide +kernel) (pa_cons (pv 1) (pa_cons (pe_tup (pa_cons (pe_bltn (v := .ty "list") (by rfl) Z.list_ (by decide +kernel) rfl) (pa_cons (pe_bltn (v := .ty "tuple") (by rfl) Z.tuple_ (by decide +kernel) rfl) pa_nil))) pa_nil))))) (pss_one (ps_ret (pe_tup (pa_cons pe_str (pa_cons pe_str (pa_cons (pe_un un_neg pe_int) pa_nil)))))) pss_nil) (pss_cons (ps_if (pt_cmpR op_gt (pe_callB call_len_seq (by rfl) Z.len_ (by decide +kernel) (pa_cons (pv 1) pa_nil)) pe_int (nomark _)) (pss_one (ps_ret (pe_tup (pa_cons pe_str (pa_cons pe_str (pa_cons pe_int pa_nil)))))) pss_nil) (pss_cons (ps_setLc (i := 2) (own := [("_law_k", 3)]) (g := gName 3) (by rfl) sc_l_facts_due.nd rfl rfl (sw_true rfl rfl rfl (by decide +kernel)) (pi_range1 (by rfl) Z.range_ (pa_cons (pe_callB call_len_seq (by rfl) Z.len_ (by decide +kernel) (pa_cons (pv 1) pa_nil)) pa_nil)) (blkOk_by (own := [("_law_k", 3)]) (N := ["_law_pool", "_law_x", "_law_bad", "_law_k", "_law_labels", "_law_item", "_law_twice", "_law_tag"]) (sc := defScope s_l_facts_due) (by decide +kernel)) (fun _ _ _ _ _ => pg_name (i := 3) sc_l_facts_due.nd rfl (Or.inl rfl)) (fun _ _ _ _ _ => (pts_one (pt_not (pt_val (pe_call G_l_is_marked (hr.mono (by decide)) (by rfl) m_l_is_marked k_l_is_marked b_l_is_marked .nil pass0 (pa_cons (pe_ix (show IxR _ (rIx K) from ix_seq) (pv 1) (pv 3) (fun _ _ => rfl)) pa_nil)))))) (fun _ _ _ _ _ => (pv 3))) (pss_cons (ps_if (pt_cmpR (op_neD hr.units) (pv 2) (pe_lst pa_nil) (nomark _)) (pss_one (ps_ret (pe_tup (pa_cons pe_str (pa_cons pe_str (pa_cons (pe_ix ix_list (pv 2) pe_int (fun _ _ => rfl)) pa_nil)))))) pss_nil) (pss_cons (ps_set (i := 4) sc_l_facts_due.nd rfl (Or.inr rfl) (pe_lc (own := [("_law_item", 5)]) (g := gName 5) (by rfl) sc_l_facts_due.nd (pi_LT (pv 1)) (blkOk_by (own := [("_law_item", 5)]) (N := ["_law_pool", "_law_x", "_law_bad", "_law_k", "_law_labels", "_law_item", "_law_twice", "_law_tag"]) (sc := defScope s_l_facts_due) (by decide +kernel)) (fun _ _ _ _ _ => pg_name (i := 5) sc_l_facts_due.nd rfl (Or.inl rfl)) (fun _ _ _ _ _ => pts_nil) (fun _ _ _ _ _ => (pe_ix (show IxR _ (rIxT K) from ix_tup) (pv 5) pe_int (fun _ _ => rfl))))) (pss_cons (ps_setLc (i := 6) (own := [("_law_k", 3)]) (g := gName 3) (by rfl) sc_l_facts_due.nd rfl rfl (sw_true rfl rfl rfl (by decide +kernel)) (pi_range1 (by rfl) Z.range_ (pa_cons (pe_callB call_len_seq (by rfl) Z.len_ (by decide +kernel) (pa_cons (pv 1) pa_nil)) pa_nil)) (blkOk_by (own := [("_law_k", 3)]) (N := ["_law_pool", "_law_x", "_law_bad", "_law_k", "_law_labels", "_law_item", "_law_twice", "_law_tag"]) (sc := defScope s_l_facts_due) (by decide +kernel)) (fun _ _ _ _ _ => pg_name (i := 3) sc_l_facts_due.nd rfl (Or.inl rfl)) (fun _ _ _ _ _ => (pts_one (pt_cmpR (show OpR _ (compareOp .In) (rIn K false) from op_in_seq) (pe_ix (show IxR _ (rIxL K) from ix_list) (pv 4) (pv 3) (fun _ _ => rfl)) (pe_slice (show SlR _ (rSlL K) from sl_list) (pv 4) po_none (po_some (pv 3))) (by rfl)))) (fun _ _ _ _ _ => (pe_ix (show IxR _ (rIxL K) from ix_list) (pv 4) (pv 3) (fun _ _ => rfl)))) (pss_cons (ps_if (pt_cmpR (op_neD hr.units) (pv 6) (pe_lst pa_nil) (nomark _)) (pss_one (ps_ret (pe_tup (pa_cons pe_str (pa_cons pe_str (pa_cons (pe_ix ix_list (pv 6) pe_int (fun _ _ => rfl)) pa_nil)))))) pss_nil) (pss_cons (ps_for PassesOwn.never rfl (pi_LT (pv 1)) (pg_name (i := 5) sc_l_facts_due.nd rfl (Or.inl rfl)) (pss_one (ps_for PassesOwn.never rfl (pi_tup (pe_slice sl_tup (pe_ix ix_tup (pv 5) pe_int (fun _ _ => rfl)) (po_some pe_int) po_none)) (pg_name (i := 7) sc_l_facts_due.nd rfl (Or.inl rfl)) (pss_one (ps_if (pt_cmpR op_notIn_seq (pv 7) (pv 0) (by rfl)) (pss_one (ps_ret (pe_tup (pa_cons pe_str (pa_cons pe_str (pa_cons (pv 7) pa_nil)))))) pss_nil))))) (pss_one (ps_ret (pe_tup (pa_cons pe_str (pa_cons pe_non pa_nil))))))))))))), ?_⟩
    have nd := rv.nodict
    refine ⟨_, rfl, (by show 2 ≤ sizeLine; decide), fun t nt => ⟨v, t, _, _, _, _, rfl, upd_same, .cons (.ty _) (.cons (.ty _) .nil), ty_same (same_new nt) rv.ty, kit_lt d nd, _, rfl, ite2 (fun z => ?_) (fun z => ?_)⟩⟩
    · have hn := noseqF (d := d) (fun w => by rw [decide_eq_true w] at z; cases z)
      refine ⟨1, rfl, by show 3 ≤ sizeLine; decide, fun r nr => ?_⟩
      refine q _ _ ((same_new nt).trans (same_new nr)) ?_
      rw [due_none hn]
      exact Da.newT upd_same (.cons (.str _) (.cons (.str _) (.cons (.int _) .nil)))
    have s1 : Same H (upd H t (.tup [.ty "list", .ty "tuple"])) := same_new nt
    generalize upd H t (.tup [.ty "list", .ty "tuple"]) = H1 at s1 ⊢
    obtain ⟨b, vs, ds, rfl, hq, al, hi⟩ := seqF (rv.to s1) (Classical.byContradiction fun w => z (by rw [decide_eq_false w]; rfl))
    have hlv := hlv0 ds hi
    have lvs := al.len
    refine ⟨_, rfl, b, vs, rfl, hq, _, _, rfl, rfl, _, rfl, ite2 (fun z => ?_) (fun z => ?_)⟩
    · have hlen : 30 < ds.length := by
        have z := of_decide_eq_true z
        omega
      refine ⟨by show 3 ≤ sizeLine; decide, fun r nr => ?_⟩
      refine q _ _ (s1.trans (same_new nr)) ?_
      rw [due_many hi hlen]
      exact Da.newT upd_same (.cons (.str _) (.cons (.str _) (.cons (.int _) .nil)))
    have hl : ds.length ≤ 30 := by
      have z : ¬ ((vs.length : Nat) : Int) > 30 := fun w => z (decide_eq_true w)
      omega
    -- bad ones
    refine ⟨_, rfl, b, vs, rfl, hq, _, rfl, by omega, by omega, fun L nL => ?_⟩
    refine lc_range (lo := 0) (n := ((vs.length : Nat) : Int).toNat) (fun i H2 => Same H1 H2 ∧ H2 L = some (.lst (((List.range i).filter fun k => !mfD (ds.getD k .none)).map fun k => V.int (k : Nat)))) ⟨same_new nL, upd_same⟩ ?_ ?_
    · rintro i H2 hi2 ⟨s2, e2⟩
      obtain ⟨x, hx⟩ : ∃ x, vs[i]? = some x := ⟨_, List.getElem?_eq_getElem (by omega)⟩
      obtain ⟨e, he, re⟩ := (al.to s2).at hx
      refine ⟨rfl, _, rfl, _, rfl, ix_any (sq_any s2 hq) hx ⟨x, e, rfl, re, hlv e (List.mem_of_getElem? he), fun H3 s3 => ⟨_, rfl, ite2 (fun hm => ?_) (fun hm => ?_)⟩⟩⟩
      · refine ⟨_, rfl, _, s3 _ _ e2, slineL (by rw [List.length_map]; have := List.length_filter_le (fun k => !mfD (ds.getD k .none)) (List.range i); rw [List.length_range] at this; omega), same_mut (s2.trans s3) nL, ?_⟩
        rw [upd_same, List.range_succ, List.filter_append, List.map_append]
        congr 3
        rw [List.filter_cons, getDd he, hm, if_pos rfl, List.filter_nil, List.map_cons, Int.zero_add]
        rfl
      · refine ⟨s2.trans s3, ?_⟩
        rw [s3 _ _ e2, List.range_succ, List.filter_append, List.filter_cons, getDd he, if_neg hm, List.filter_nil, List.append_nil]
    rintro H2' ⟨s2', e2⟩
    rw [show (((vs.length : Nat) : Int)).toNat = ds.length by omega] at e2
    refine ⟨_, rfl, Nat.zero_le _, fun u nu => ?_⟩
    have e2 := kp (u := .lst []) e2 nu
    have s2 := s2'.trans (same_new (o := .lst []) nu)
    have eu : (upd H2' u (.lst [])) u = some (.lst []) := upd_same
    generalize upd H2' u (.lst []) = H2 at e2 s2 eu ⊢
    have hix : firstIx (fun k => !mfD (ds.getD k .none)) ds.length = ((List.range ds.length).filter fun k => !mfD (ds.getD k .none)).head? := by
      unfold firstIx
      rw [List.head?_filter]
    have hmem : ∀ k, k ∈ ((List.range ds.length).filter fun k => !mfD (ds.getD k .none)) ↔ k < ds.length ∧ mfD (ds.getD k .none) = false := fun k => by
      rw [List.mem_filter, List.mem_range]
      simp
    have lbad : ((List.range ds.length).filter fun k => !mfD (ds.getD k .none)).length ≤ 30 := by
      have := List.length_filter_le (fun k => !mfD (ds.getD k .none)) (List.range ds.length)
      rw [List.length_range] at this
      omega
    generalize ((List.range ds.length).filter fun k => !mfD (ds.getD k .none)) = bad at hix e2 hmem lbad
    have lvb : Lv 1 (.list (bad.map fun (k : Nat) => PyData.int (k : Int))) := ⟨by rw [List.length_map]; omega, fun x hx => by
      obtain ⟨k, _, rfl⟩ := List.mem_map.mp hx
      trivial⟩
    have rbad : DaAll K H2 (bad.map fun (k : Nat) => V.int (k : Int)) (bad.map fun (k : Nat) => PyData.int (k : Int)) := by
      clear lvb lbad hmem e2 hix
      induction bad with
      | nil => exact .nil
      | cons k r ih => exact .cons (.int _) ih
    refine ⟨.list (bad.map fun (k : Nat) => PyData.int (k : Int)), .list [], .lst (.inl (.inl e2)) (DaAll.dp (K := K) _ _ rbad), .lst (.inl (.inl eu)) .nil, lvb.shaped (by decide), (lv_of 1 _ (by decide +kernel) : Lv 1 (.list [])).shaped (by decide), _, rfl, ?_⟩
    have e0 : PyData.eqv (.list (bad.map fun (k : Nat) => PyData.int (k : Int))) (.list []) = bad.isEmpty := by
      cases bad <;> simp [PyData.eqv, PyData.eqvAll]
    rw [e0]
    cases bad with
    | cons k bad =>
      refine iteT ?_
      refine ⟨_, rfl, L, _, 0, .int (k : Int), rfl, rfl, .inl (.inl e2), atI_of (by decide) rfl, by show 3 ≤ sizeLine; decide, fun r nr => ?_⟩
      refine q _ _ ((s1.trans s2).trans (same_new nr)) ?_
      have ed : fDue xs d = dueE "InvalidFact" (.int (k : Int)) := by
        unfold fDue
        rw [hi]
        show (if 30 < ds.length then _ else _) = _
        rw [if_neg (by omega), hix]
        rfl
      rw [ed]
      exact Da.newT upd_same (.cons (.str _) (.cons (.str _) (.cons (.int _) .nil)))
    | nil =>
    refine iteF ?_
    have hall : ∀ (j : Nat) (e' : PyData), ds[j]? = some e' → mfD e' = true := fun j e' he => by
      cases hm : mfD e' with
      | true => rfl
      | false =>
        have := (hmem j).mpr ⟨lt_of_get he, by rw [getDd he]; exact hm⟩
        cases this
    rcases hq with hq | hq
    · skip
      have hq1 := hq
      -- the marks
      have shp : ∀ (j : Nat) (x : V) (H' : Hp), Same H1 H' → vs[j]? = some x → ∃ (p q : Addr) (m t : Str) (rs : List Str), x = .ref p ∧ SqT K H' p [.str m, .ref q] ∧ SqT K H' q ((t :: rs).map V.str) ∧ isNm m = true ∧ (∀ x ∈ rs, isNm x = true) ∧ ∃ e, ds[j]? = some e ∧ markOf e = m ∧ namesOf e = rs := fun j x H' s hx => by
        obtain ⟨e, he, re⟩ := (al.to s).at hx
        obtain ⟨m, t, rs, rfl, nm, nr, em, en⟩ := mf_shape (hall j e he)
        cases re with
        | tup sq ty ra =>
          cases ra with
          | cons r1 ra =>
            cases r1
            cases ra with
            | cons r2 ra =>
              cases ra
              cases r2 with
              | tup sq2 ty2 ra2 =>
                have ev := ra2.isStrs
                subst ev
                exact ⟨_, _, m, t, rs, rfl, sq, sq2, nm, nr, _, he, em, en⟩
      refine ⟨_, rfl, b, vs, rfl, .inl ⟨Same.seq s2 hq, fun L2 nL2 => ?_⟩⟩
      refine lc_list (K := K) (a := b) (xs := vs) (fun i H4 => Same H2 H4 ∧ H4 L2 = some (.lst (((ds.map markOf).take i).map V.str))) ⟨same_new nL2, upd_same⟩ (fun i H4 _ z => Same.seq (s2.trans z.1) hq) ?_ ?_
      · rintro i x H4 hx ⟨s4, e4⟩
        obtain ⟨p, q', m, t, rs, rfl, sq, _, _, _, e, he, em, _⟩ := shp i x H4 (s2.trans s4) hx
        refine ⟨rfl, _, rfl, p, _, 0, _, rfl, rfl, sq, atI_of (by decide) rfl, _, e4, slineL (by rw [List.length_map, List.length_take, List.length_map]; omega), same_mut s4 nL2, ?_⟩
        rw [upd_same, take_succ_map (f := V.str) (x := m) (by rw [List.getElem?_map, he, ← em]; rfl)]
      rintro H4 ⟨s4, e4⟩
      rw [List.take_of_length_le (by rw [List.length_map, lvs]; exact Nat.le_refl _)] at e4
      have nmk : ∀ x ∈ ds.map markOf, isNm x = true := fun x hx => by
        obtain ⟨e, he, rfl⟩ := List.mem_map.mp hx
        obtain ⟨j, hj⟩ := List.getElem?_of_mem he
        obtain ⟨m, t, rs, _, nm, _, em, _⟩ := mf_shape (hall j e hj)
        rw [em]
        exact nm
      have lms : (ds.map markOf).length = ds.length := List.length_map _
      have s24 := s2.trans s4
      have edue := due_end (xs := xs) hi hl hall
      have edup : ∀ x, dupAt (ds.map markOf) = some x → fDue xs d = dueE "DuplicateName" (.str x) := fun x => due_dup hi hl hall
      generalize ds.map markOf = ms at e4 nmk lms edue edup
      -- twice
      refine ⟨_, rfl, b, vs, rfl, .inl (Same.seq s24 hq), _, rfl, by omega, by omega, fun L3 nL3 => ?_⟩
      have eL2 := kp (u := .lst []) e4 nL3
      refine lc_range (lo := 0) (n := ((vs.length : Nat) : Int).toNat) (fun i H5 => Same H4 H5 ∧ H5 L3 = some (.lst (((List.range i).filter fun k => decide (ms.getD k Str.empty ∈ ms.take k)).map fun k => V.str (ms.getD k Str.empty)))) ⟨same_new nL3, upd_same⟩ ?_ ?_
      · rintro i H5 hi5 ⟨s5, e5⟩
        have hil : i < ms.length := by omega
        obtain ⟨y, hy⟩ : ∃ y, ms[i]? = some y := ⟨_, List.getElem?_eq_getElem hil⟩
        have e45 := s5 _ _ e4
        have i0 : ((0 : Int) + (i : Int)).toNat = i := by omega
        refine ⟨rfl, _, rfl, _, rfl, L2, _, _, .str y, rfl, rfl, .inl (.inl e45), atI_of (by omega) (by rw [i0, List.getElem?_map, hy]; rfl), _, rfl, _, rfl, (i : Int), congrArg V.int (Int.zero_add _), L2, _, rfl, .inl (.inl e45), fun R nR => ?_⟩
        have s6 := s5.trans (same_new (o := .lst (cutV (ms.map V.str) none (some (i : Int)))) nR)
        have ec : cutV (ms.map V.str) none (some (i : Int)) = (ms.take i).map V.str := by rw [cut_to _ (Int.natCast_nonneg i), Int.toNat_natCast, List.map_take]
        have e56 := kp (u := .lst (cutV (ms.map V.str) none (some (i : Int)))) e5 nR
        rw [ec] at s6 e56 ⊢
        refine ⟨R, _, rfl, .inl (.inl (.inl upd_same)), rfl, flatS _, _, rfl, ?_⟩
        rw [inS]
        have eg := getD_of hy
        refine ite2 (fun hm => ?_) (fun hm => ?_)
        · have hm' : y ∈ ms.take i := by simpa using hm
          refine ⟨_, rfl, _, rfl, L2, _, _, .str y, rfl, rfl, .inl (.inl (s6 _ _ e4)), atI_of (by omega) (by rw [i0, List.getElem?_map, hy]; rfl), _, e56, slineL (by rw [List.length_map]; have := List.length_filter_le (fun k => decide (ms.getD k Str.empty ∈ ms.take k)) (List.range i); rw [List.length_range] at this; omega), same_mut s6 nL3, ?_⟩
          rw [upd_same, List.range_succ, List.filter_append, List.map_append]
          congr 3
          rw [List.filter_cons, eg, decide_eq_true hm', if_pos rfl, List.filter_nil, List.map_cons, eg]
          rfl
        · have hm' : y ∉ ms.take i := by simpa using hm
          refine ⟨s6, ?_⟩
          rw [e56, List.range_succ, List.filter_append, List.filter_cons, eg, decide_eq_false hm', if_neg Bool.false_ne_true, List.filter_nil, List.append_nil]
      rintro H5 ⟨s5, e5⟩
      rw [show (((vs.length : Nat) : Int)).toNat = ms.length by omega] at e5
      have s25 := s24.trans s5
      refine ⟨_, rfl, Nat.zero_le _, fun u nu => ?_⟩
      have e56 := kp (u := .lst []) e5 nu
      have s26 := s25.trans (same_new (o := .lst []) nu)
      have eu : (upd H5 u (.lst [])) u = some (.lst []) := upd_same
      generalize upd H5 u (.lst []) = H6 at e56 s26 eu ⊢
      have hdup : dupAt ms = (((List.range ms.length).filter fun k => decide (ms.getD k Str.empty ∈ ms.take k)).map fun k => ms.getD k Str.empty).head? := by
        unfold dupAt firstIx
        rw [← List.head?_filter, List.head?_map]
      have emap : (((List.range ms.length).filter fun k => decide (ms.getD k Str.empty ∈ ms.take k)).map fun k => V.str (ms.getD k Str.empty)) = (((List.range ms.length).filter fun k => decide (ms.getD k Str.empty ∈ ms.take k)).map fun k => ms.getD k Str.empty).map V.str := by rw [List.map_map]; rfl
      rw [emap] at e56
      have ltw : (((List.range ms.length).filter fun k => decide (ms.getD k Str.empty ∈ ms.take k)).map fun k => ms.getD k Str.empty).length ≤ 30 := by
        rw [List.length_map]
        have := List.length_filter_le (fun k => decide (ms.getD k Str.empty ∈ ms.take k)) (List.range ms.length)
        rw [List.length_range] at this
        omega
      have ntw : ∀ x ∈ (((List.range ms.length).filter fun k => decide (ms.getD k Str.empty ∈ ms.take k)).map fun k => ms.getD k Str.empty), isNm x = true := fun x hx => by
        obtain ⟨k, hk, rfl⟩ := List.mem_map.mp hx
        have hk := List.mem_range.mp (List.mem_filter.mp hk).1
        obtain ⟨y, hy⟩ : ∃ y, ms[k]? = some y := ⟨_, List.getElem?_eq_getElem hk⟩
        rw [getD_of hy]
        exact nmk y (List.mem_of_getElem? hy)
      generalize (((List.range ms.length).filter fun k => decide (ms.getD k Str.empty ∈ ms.take k)).map fun k => ms.getD k Str.empty) = tw at hdup e56 ltw ntw
      refine ⟨.list (tw.map .str), .list [], .lst (.inl (.inl e56)) (DaAll.dp (K := K) _ _ (DaAll.strs tw)), .lst (.inl (.inl eu)) .nil, (lv_lotL (n := 0) ntw (by omega)).shaped (by decide), (lv_of 1 _ (by decide +kernel) : Lv 1 (.list [])).shaped (by decide), _, rfl, ?_⟩
      have e0 : PyData.eqv (.list (tw.map .str)) (.list []) = tw.isEmpty := by
        cases tw <;> simp [PyData.eqv, PyData.eqvAll]
      rw [e0]
      cases tw with
      | cons y tw =>
        refine iteT ?_
        refine ⟨_, rfl, L3, _, 0, .str y, rfl, rfl, .inl (.inl e56), atI_of (by decide) rfl, by show 3 ≤ sizeLine; decide, fun r nr => ?_⟩
        refine q _ _ ((s1.trans s26).trans (same_new nr)) ?_
        rw [edup _ hdup]
        exact Da.newT upd_same (.cons (.str _) (.cons (.str _) (.cons (.str _) .nil)))
      | nil =>
        refine iteF ?_
        have due := edue hdup
        refine ⟨_, rfl, b, vs, rfl, .inl ⟨Same.seq s26 hq, for_list (K := K) (a := b) (xs := vs) (fun i σ H' => ∃ y2 y3 y4 y5 y6 y7 : Option V, σ = [some (.ref a), some (.ref b), y2, y3, y4, y5, y6, y7] ∧ Same H1 H' ∧ ∀ x ∈ (ds.take i).flatMap namesOf, x ∈ xs) ⟨_, _, _, _, _, _, rfl, s26, fun x hx => nomatch hx⟩ (fun i σ H' _ z => by obtain ⟨_, _, _, _, _, _, _, s, _⟩ := z; exact Same.seq s hq) ?_ ?_⟩⟩
        · rintro i x σ H6 hx ⟨y2, y3, y4, y5, y6, y7, rfl, s6, hin⟩
          obtain ⟨p, q', m, t, rs, rfl, sq, sq2, _, nr, e, he, em, en⟩ := shp i x H6 s6 hx
          refine ⟨_, rfl, p, _, 1, _, rfl, rfl, sq, atI_of (by decide) rfl, 1, rfl, q', _, rfl, sq2, fun w => ?_, fun R nR => ?_⟩
          · rw [show HT.sIx ((t :: rs).map V.str).length 0 (some 1) = min 1 ((t :: rs).map V.str).length from HT.sIx_nat _ 0 1, List.length_map, List.length_cons] at w
            omega
          rw [show cutV ((t :: rs).map V.str) (some 1) none = rs.map V.str from cut1F _ _]
          have eR : (upd H6 R (.tup (rs.map V.str))) R = some (.tup (rs.map V.str)) := upd_same
          have s67 := s6.trans (same_new (o := .tup (rs.map V.str)) nR)
          refine ⟨R, rfl, ⟨_, .inl (.inl eR)⟩, for_tup (K := K) (a := R) (xs := rs.map V.str) (fun j σ H' => ∃ y7 : Option V, σ = [some (.ref a), some (.ref b), y2, y3, y4, some (.ref p), y6, y7] ∧ Same (upd H6 R (.tup (rs.map V.str))) H' ∧ ∀ x ∈ rs.take j, x ∈ xs) ⟨_, rfl, Same.refl _, fun x hx => nomatch hx⟩ (fun j σ H' _ z => by obtain ⟨_, _, s, _⟩ := z; exact .inl (.inl (s _ _ eR))) ?_ ?_⟩
          · rintro j y σ H8 hj ⟨y7', rfl, s8, hin2⟩
            obtain ⟨z, hz, rfl⟩ := getmap hj
            have s18 := s67.trans s8
            refine ⟨_, rfl, _, rfl, a, _, rfl, .inl ((s1.trans s18).seq ha), rfl, flatS _, _, rfl, ?_⟩
            rw [inS]
            refine ite2 (fun hm => ?_) (fun hm => ?_)
            · have hm' : z ∉ xs := by simpa using hm
              refine ⟨_, rfl, by show 3 ≤ sizeLine; decide, fun r nr2 => ?_⟩
              have erest : rs = rs.take j ++ z :: rs.drop (j + 1) := by
                have hlj := lt_of_get hz
                conv => lhs; rw [← List.take_append_drop j rs, List.drop_eq_getElem_cons hlj]
                rw [Option.some.inj ((List.getElem?_eq_getElem hlj).symm.trans hz)]
              have hd2 : fDue xs d = dueE "UnknownFind" (.str z) := by
                rw [due, flat_at he, en, erest, List.append_assoc, List.cons_append, ← List.append_assoc, find_split (fun y hy => ?_) (by simpa using hm')]
                · rfl
                · rcases List.mem_append.mp hy with h | h
                  · simpa using hin y h
                  · simpa using hin2 y h
              refine q _ _ ((s1.trans s18).trans (same_new nr2)) ?_
              rw [hd2]
              exact Da.newT upd_same (.cons (.str _) (.cons (.str _) (.cons (.str _) .nil)))
            · have hm' : z ∈ xs := by simpa using hm
              refine ⟨_, rfl, s8, fun x hx => ?_⟩
              rw [List.take_add_one, hz] at hx
              rcases List.mem_append.mp hx with h | h
              · exact hin2 x h
              · rw [List.mem_singleton.mp h]
                exact hm'
          · rintro σ H8 ⟨y7', rfl, s8, hin2⟩
            rw [List.length_map, List.take_length] at hin2
            refine ⟨_, _, _, _, _, _, rfl, s67.trans s8, fun x hx => ?_⟩
            rw [List.take_add_one, he, List.flatMap_append] at hx
            rcases List.mem_append.mp hx with h | h
            · exact hin x h
            · refine hin2 x ?_
              rw [← en]
              simpa using h
        · rintro σ H6 ⟨y2, y3, y4, y5, y6, y7, rfl, s6, hin⟩
          rw [lvs, List.take_length] at hin
          refine ⟨by show 2 ≤ sizeLine; decide, fun r nr => ?_⟩
          refine q _ _ ((s1.trans s6).trans (same_new nr)) ?_
          rw [due, List.find?_eq_none.mpr fun x hx => by simpa using hin x hx]
          exact Da.newT upd_same (.cons (.str _) (.cons .non .nil))
    · skip
      have hq1 := hq
      -- the marks
      have shp : ∀ (j : Nat) (x : V) (H' : Hp), Same H1 H' → vs[j]? = some x → ∃ (p q : Addr) (m t : Str) (rs : List Str), x = .ref p ∧ SqT K H' p [.str m, .ref q] ∧ SqT K H' q ((t :: rs).map V.str) ∧ isNm m = true ∧ (∀ x ∈ rs, isNm x = true) ∧ ∃ e, ds[j]? = some e ∧ markOf e = m ∧ namesOf e = rs := fun j x H' s hx => by
        obtain ⟨e, he, re⟩ := (al.to s).at hx
        obtain ⟨m, t, rs, rfl, nm, nr, em, en⟩ := mf_shape (hall j e he)
        cases re with
        | tup sq ty ra =>
          cases ra with
          | cons r1 ra =>
            cases r1
            cases ra with
            | cons r2 ra =>
              cases ra
              cases r2 with
              | tup sq2 ty2 ra2 =>
                have ev := ra2.isStrs
                subst ev
                exact ⟨_, _, m, t, rs, rfl, sq, sq2, nm, nr, _, he, em, en⟩
      refine ⟨_, rfl, b, vs, rfl, .inr ⟨same_t s2 hq, fun L2 nL2 => ?_⟩⟩
      refine lc_tup (K := K) (a := b) (xs := vs) (fun i H4 => Same H2 H4 ∧ H4 L2 = some (.lst (((ds.map markOf).take i).map V.str))) ⟨same_new nL2, upd_same⟩ (fun i H4 _ z => same_t (s2.trans z.1) hq) ?_ ?_
      · rintro i x H4 hx ⟨s4, e4⟩
        obtain ⟨p, q', m, t, rs, rfl, sq, _, _, _, e, he, em, _⟩ := shp i x H4 (s2.trans s4) hx
        refine ⟨rfl, _, rfl, p, _, 0, _, rfl, rfl, sq, atI_of (by decide) rfl, _, e4, slineL (by rw [List.length_map, List.length_take, List.length_map]; omega), same_mut s4 nL2, ?_⟩
        rw [upd_same, take_succ_map (f := V.str) (x := m) (by rw [List.getElem?_map, he, ← em]; rfl)]
      rintro H4 ⟨s4, e4⟩
      rw [List.take_of_length_le (by rw [List.length_map, lvs]; exact Nat.le_refl _)] at e4
      have nmk : ∀ x ∈ ds.map markOf, isNm x = true := fun x hx => by
        obtain ⟨e, he, rfl⟩ := List.mem_map.mp hx
        obtain ⟨j, hj⟩ := List.getElem?_of_mem he
        obtain ⟨m, t, rs, _, nm, _, em, _⟩ := mf_shape (hall j e hj)
        rw [em]
        exact nm
      have lms : (ds.map markOf).length = ds.length := List.length_map _
      have s24 := s2.trans s4
      have edue := due_end (xs := xs) hi hl hall
      have edup : ∀ x, dupAt (ds.map markOf) = some x → fDue xs d = dueE "DuplicateName" (.str x) := fun x => due_dup hi hl hall
      generalize ds.map markOf = ms at e4 nmk lms edue edup
      -- twice
      refine ⟨_, rfl, b, vs, rfl, .inr (same_t s24 hq), _, rfl, by omega, by omega, fun L3 nL3 => ?_⟩
      have eL2 := kp (u := .lst []) e4 nL3
      refine lc_range (lo := 0) (n := ((vs.length : Nat) : Int).toNat) (fun i H5 => Same H4 H5 ∧ H5 L3 = some (.lst (((List.range i).filter fun k => decide (ms.getD k Str.empty ∈ ms.take k)).map fun k => V.str (ms.getD k Str.empty)))) ⟨same_new nL3, upd_same⟩ ?_ ?_
      · rintro i H5 hi5 ⟨s5, e5⟩
        have hil : i < ms.length := by omega
        obtain ⟨y, hy⟩ : ∃ y, ms[i]? = some y := ⟨_, List.getElem?_eq_getElem hil⟩
        have e45 := s5 _ _ e4
        have i0 : ((0 : Int) + (i : Int)).toNat = i := by omega
        refine ⟨rfl, _, rfl, _, rfl, L2, _, _, .str y, rfl, rfl, .inl (.inl e45), atI_of (by omega) (by rw [i0, List.getElem?_map, hy]; rfl), _, rfl, _, rfl, (i : Int), congrArg V.int (Int.zero_add _), L2, _, rfl, .inl (.inl e45), fun R nR => ?_⟩
        have s6 := s5.trans (same_new (o := .lst (cutV (ms.map V.str) none (some (i : Int)))) nR)
        have ec : cutV (ms.map V.str) none (some (i : Int)) = (ms.take i).map V.str := by rw [cut_to _ (Int.natCast_nonneg i), Int.toNat_natCast, List.map_take]
        have e56 := kp (u := .lst (cutV (ms.map V.str) none (some (i : Int)))) e5 nR
        rw [ec] at s6 e56 ⊢
        refine ⟨R, _, rfl, .inl (.inl (.inl upd_same)), rfl, flatS _, _, rfl, ?_⟩
        rw [inS]
        have eg := getD_of hy
        refine ite2 (fun hm => ?_) (fun hm => ?_)
        · have hm' : y ∈ ms.take i := by simpa using hm
          refine ⟨_, rfl, _, rfl, L2, _, _, .str y, rfl, rfl, .inl (.inl (s6 _ _ e4)), atI_of (by omega) (by rw [i0, List.getElem?_map, hy]; rfl), _, e56, slineL (by rw [List.length_map]; have := List.length_filter_le (fun k => decide (ms.getD k Str.empty ∈ ms.take k)) (List.range i); rw [List.length_range] at this; omega), same_mut s6 nL3, ?_⟩
          rw [upd_same, List.range_succ, List.filter_append, List.map_append]
          congr 3
          rw [List.filter_cons, eg, decide_eq_true hm', if_pos rfl, List.filter_nil, List.map_cons, eg]
          rfl
        · have hm' : y ∉ ms.take i := by simpa using hm
          refine ⟨s6, ?_⟩
          rw [e56, List.range_succ, List.filter_append, List.filter_cons, eg, decide_eq_false hm', if_neg Bool.false_ne_true, List.filter_nil, List.append_nil]
      rintro H5 ⟨s5, e5⟩
      rw [show (((vs.length : Nat) : Int)).toNat = ms.length by omega] at e5
      have s25 := s24.trans s5
      refine ⟨_, rfl, Nat.zero_le _, fun u nu => ?_⟩
      have e56 := kp (u := .lst []) e5 nu
      have s26 := s25.trans (same_new (o := .lst []) nu)
      have eu : (upd H5 u (.lst [])) u = some (.lst []) := upd_same
      generalize upd H5 u (.lst []) = H6 at e56 s26 eu ⊢
      have hdup : dupAt ms = (((List.range ms.length).filter fun k => decide (ms.getD k Str.empty ∈ ms.take k)).map fun k => ms.getD k Str.empty).head? := by
        unfold dupAt firstIx
        rw [← List.head?_filter, List.head?_map]
      have emap : (((List.range ms.length).filter fun k => decide (ms.getD k Str.empty ∈ ms.take k)).map fun k => V.str (ms.getD k Str.empty)) = (((List.range ms.length).filter fun k => decide (ms.getD k Str.empty ∈ ms.take k)).map fun k => ms.getD k Str.empty).map V.str := by rw [List.map_map]; rfl
      rw [emap] at e56
      have ltw : (((List.range ms.length).filter fun k => decide (ms.getD k Str.empty ∈ ms.take k)).map fun k => ms.getD k Str.empty).length ≤ 30 := by
        rw [List.length_map]
        have := List.length_filter_le (fun k => decide (ms.getD k Str.empty ∈ ms.take k)) (List.range ms.length)
        rw [List.length_range] at this
        omega
      have ntw : ∀ x ∈ (((List.range ms.length).filter fun k => decide (ms.getD k Str.empty ∈ ms.take k)).map fun k => ms.getD k Str.empty), isNm x = true := fun x hx => by
        obtain ⟨k, hk, rfl⟩ := List.mem_map.mp hx
        have hk := List.mem_range.mp (List.mem_filter.mp hk).1
        obtain ⟨y, hy⟩ : ∃ y, ms[k]? = some y := ⟨_, List.getElem?_eq_getElem hk⟩
        rw [getD_of hy]
        exact nmk y (List.mem_of_getElem? hy)
      generalize (((List.range ms.length).filter fun k => decide (ms.getD k Str.empty ∈ ms.take k)).map fun k => ms.getD k Str.empty) = tw at hdup e56 ltw ntw
      refine ⟨.list (tw.map .str), .list [], .lst (.inl (.inl e56)) (DaAll.dp (K := K) _ _ (DaAll.strs tw)), .lst (.inl (.inl eu)) .nil, (lv_lotL (n := 0) ntw (by omega)).shaped (by decide), (lv_of 1 _ (by decide +kernel) : Lv 1 (.list [])).shaped (by decide), _, rfl, ?_⟩
      have e0 : PyData.eqv (.list (tw.map .str)) (.list []) = tw.isEmpty := by
        cases tw <;> simp [PyData.eqv, PyData.eqvAll]
      rw [e0]
      cases tw with
      | cons y tw =>
        refine iteT ?_
        refine ⟨_, rfl, L3, _, 0, .str y, rfl, rfl, .inl (.inl e56), atI_of (by decide) rfl, by show 3 ≤ sizeLine; decide, fun r nr => ?_⟩
        refine q _ _ ((s1.trans s26).trans (same_new nr)) ?_
        rw [edup _ hdup]
        exact Da.newT upd_same (.cons (.str _) (.cons (.str _) (.cons (.str _) .nil)))
      | nil =>
        refine iteF ?_
        have due := edue hdup
        refine ⟨_, rfl, b, vs, rfl, .inr ⟨same_t s26 hq, for_tup (K := K) (a := b) (xs := vs) (fun i σ H' => ∃ y2 y3 y4 y5 y6 y7 : Option V, σ = [some (.ref a), some (.ref b), y2, y3, y4, y5, y6, y7] ∧ Same H1 H' ∧ ∀ x ∈ (ds.take i).flatMap namesOf, x ∈ xs) ⟨_, _, _, _, _, _, rfl, s26, fun x hx => nomatch hx⟩ (fun i σ H' _ z => by obtain ⟨_, _, _, _, _, _, _, s, _⟩ := z; exact same_t s hq) ?_ ?_⟩⟩
        · rintro i x σ H6 hx ⟨y2, y3, y4, y5, y6, y7, rfl, s6, hin⟩
          obtain ⟨p, q', m, t, rs, rfl, sq, sq2, _, nr, e, he, em, en⟩ := shp i x H6 s6 hx
          refine ⟨_, rfl, p, _, 1, _, rfl, rfl, sq, atI_of (by decide) rfl, 1, rfl, q', _, rfl, sq2, fun w => ?_, fun R nR => ?_⟩
          · rw [show HT.sIx ((t :: rs).map V.str).length 0 (some 1) = min 1 ((t :: rs).map V.str).length from HT.sIx_nat _ 0 1, List.length_map, List.length_cons] at w
            omega
          rw [show cutV ((t :: rs).map V.str) (some 1) none = rs.map V.str from cut1F _ _]
          have eR : (upd H6 R (.tup (rs.map V.str))) R = some (.tup (rs.map V.str)) := upd_same
          have s67 := s6.trans (same_new (o := .tup (rs.map V.str)) nR)
          refine ⟨R, rfl, ⟨_, .inl (.inl eR)⟩, for_tup (K := K) (a := R) (xs := rs.map V.str) (fun j σ H' => ∃ y7 : Option V, σ = [some (.ref a), some (.ref b), y2, y3, y4, some (.ref p), y6, y7] ∧ Same (upd H6 R (.tup (rs.map V.str))) H' ∧ ∀ x ∈ rs.take j, x ∈ xs) ⟨_, rfl, Same.refl _, fun x hx => nomatch hx⟩ (fun j σ H' _ z => by obtain ⟨_, _, s, _⟩ := z; exact .inl (.inl (s _ _ eR))) ?_ ?_⟩
          · rintro j y σ H8 hj ⟨y7', rfl, s8, hin2⟩
            obtain ⟨z, hz, rfl⟩ := getmap hj
            have s18 := s67.trans s8
            refine ⟨_, rfl, _, rfl, a, _, rfl, .inl ((s1.trans s18).seq ha), rfl, flatS _, _, rfl, ?_⟩
            rw [inS]
            refine ite2 (fun hm => ?_) (fun hm => ?_)
            · have hm' : z ∉ xs := by simpa using hm
              refine ⟨_, rfl, by show 3 ≤ sizeLine; decide, fun r nr2 => ?_⟩
              have erest : rs = rs.take j ++ z :: rs.drop (j + 1) := by
                have hlj := lt_of_get hz
                conv => lhs; rw [← List.take_append_drop j rs, List.drop_eq_getElem_cons hlj]
                rw [Option.some.inj ((List.getElem?_eq_getElem hlj).symm.trans hz)]
              have hd2 : fDue xs d = dueE "UnknownFind" (.str z) := by
                rw [due, flat_at he, en, erest, List.append_assoc, List.cons_append, ← List.append_assoc, find_split (fun y hy => ?_) (by simpa using hm')]
                · rfl
                · rcases List.mem_append.mp hy with h | h
                  · simpa using hin y h
                  · simpa using hin2 y h
              refine q _ _ ((s1.trans s18).trans (same_new nr2)) ?_
              rw [hd2]
              exact Da.newT upd_same (.cons (.str _) (.cons (.str _) (.cons (.str _) .nil)))
            · have hm' : z ∈ xs := by simpa using hm
              refine ⟨_, rfl, s8, fun x hx => ?_⟩
              rw [List.take_add_one, hz] at hx
              rcases List.mem_append.mp hx with h | h
              · exact hin2 x h
              · rw [List.mem_singleton.mp h]
                exact hm'
          · rintro σ H8 ⟨y7', rfl, s8, hin2⟩
            rw [List.length_map, List.take_length] at hin2
            refine ⟨_, _, _, _, _, _, rfl, s67.trans s8, fun x hx => ?_⟩
            rw [List.take_add_one, he, List.flatMap_append] at hx
            rcases List.mem_append.mp hx with h | h
            · exact hin x h
            · refine hin2 x ?_
              rw [← en]
              simpa using h
        · rintro σ H6 ⟨y2, y3, y4, y5, y6, y7, rfl, s6, hin⟩
          rw [lvs, List.take_length] at hin
          refine ⟨by show 2 ≤ sizeLine; decide, fun r nr => ?_⟩
          refine q _ _ ((s1.trans s6).trans (same_new nr)) ?_
          rw [due, List.find?_eq_none.mpr fun x hx => by simpa using hin x hx]
          exact Da.newT upd_same (.cons (.str _) (.cons .non .nil))
end
end Th
namespace Th
open PySem PySem.Spec PyProof.Rows L2
abbrev s_p_is_entry : Stmt := topS 58
theorem sc_p_is_entry : FnScope ["value", "at", "statement", "rule", "elders", "elder"] ["value", "at"] (defScope s_p_is_entry) := ⟨rfl, rfl, rfl, by decide +kernel, rfl, by decide +kernel, by decide +kernel⟩

section
variable {P : Program} {w : World} {K : PySem.W.Frag} {mg : Str → Option Value} {base : Heap} {CB : Addr}
theorem has_p_is_entry (Z : Zs mg) (A : At K mg "_is_entry" s_p_is_entry ["value", "at"]) : Has P w K mg base "_is_entry" s_p_is_entry 1 ["value", "at"] (spNo) := by
  obtain ⟨f, fd, F, mg1, bd⟩ := A
  exact ⟨f, fd, no_ok, mg1, F.kp, bd, F⟩
end
end Th
namespace Th
open PySem PySem.Spec PyProof.Rows L2
abbrev s_p_is_right : Stmt := topS 59
theorem sc_p_is_right : FnScope ["book", "facts", "entries", "entry", "statement", "rule", "elders", "is_given", "follows_from", "elder"] ["book", "facts", "entries", "entry"] (defScope s_p_is_right) := ⟨rfl, rfl, rfl, by decide +kernel, rfl, by decide +kernel, by decide +kernel⟩

section
variable {P : Program} {w : World} {K : PySem.W.Frag} {mg : Str → Option Value} {base : Heap} {CB : Addr}
theorem has_p_is_right (Z : Zs mg) (A : At K mg "_is_right" s_p_is_right ["book", "facts", "entries", "entry"]) : Has P w K mg base "_is_right" s_p_is_right 1 ["book", "facts", "entries", "entry"] (spNo) := by
  obtain ⟨f, fd, F, mg1, bd⟩ := A
  exact ⟨f, fd, no_ok, mg1, F.kp, bd, F⟩
end
end Th
namespace Th
open PySem PySem.Spec PyProof.Rows L2
abbrev s_c_Book_finds : Stmt := inClass (topS 45) 1
theorem sc_c_Book_finds : FnScope ["self"] ["self"] (defScope s_c_Book_finds) := ⟨rfl, rfl, rfl, by decide +kernel, rfl, by decide +kernel, by decide +kernel⟩
/-- a book's finds stand where they should -/
structure BookAt (H : Hp) (C b : Addr) (ys : List Str) : Prop where
  ex : ∃ (dx fa : Addr) (fs : List (Str × V)), H b = some (.ins C dx fs) ∧ fs.lookup ("_finds" : Str) = some (.ref fa) ∧ fs.lookup ("finds" : Str) = none ∧ H fa = some (.lst (ys.map V.str))
theorem BookAt.sm {H H' : Hp} {C b : Addr} {ys : List Str} (h : BookAt H C b ys) (s : Same H H') : BookAt H' C b ys := by
  obtain ⟨dx, fa, fs, e1, l1, l2, e2⟩ := h.ex
  exact ⟨dx, fa, fs, s _ _ e1, l1, l2, s _ _ e2⟩
/-- the finds of a book, in a new list -/
def spBFinds (K : PySem.W.Frag) (C : Addr) : Sp := fun vs H Q _ => ∃ (b : Addr) (ys : List Str), vs = [.ref b] ∧ BookAt H C b ys ∧ ∀ r H', Same H H' → H r = none → H' r = some (.lst (ys.map V.str)) → Q (.ref r) H'
section
variable {P : Program} {w : World} {K : PySem.W.Frag} {mg : Str → Option Value} {base : Heap} {CB : Addr}
theorem has_c_Book_finds {f : Addr} {fd : FuncData} {dvs : List V} (Z : Zs mg) (B : ClsF K mg CB "Book" ["_finds", "_words"]) (F : FunD K "finds" "Book.finds" (defArgs s_c_Book_finds) (defBody s_c_Book_finds) (defScope s_c_Book_finds) dvs [] f fd) : FnOk P w K mg base (L2.CX P w) 1 f fd ["self"] (spBFinds K CB) := by
  refine F.ok (CX := L2.CX P w) sc_c_Book_finds (fun vs H Q E h => ?_) (fun cdv A outer s H vs Q E hr h => ?_)
  · obtain ⟨b, ys, rfl, _⟩ := h
    rfl
  · obtain ⟨b, ys, rfl, bk, q⟩ := h
    refine ⟨_, (pss_one (ps_ret (pe_callTy call_list_of (by rfl) Z.list_ (by decide +kernel) (pa_cons (pe_fld (pv 0) rfl) pa_nil)))), ?_⟩
    obtain ⟨dx, fa, fs, e1, l1, l2, e2⟩ := bk.ex
    exact ⟨_, rfl, b, CB, dx, fs, _, rfl, e1, B.cl, B.na _ (by decide), l1, fa, _, rfl, .inl (.inl (.inl e2)), fun r nr => q r _ (same_new nr) nr upd_same⟩
end
end Th
namespace Th
open PySem PySem.Spec PyProof.Rows L2
abbrev s_p_first_fault : Stmt := topS 55
theorem sc_p_first_fault : FnScope ["book", "facts", "entries", "at", "entry"] ["book", "facts", "entries"] (defScope s_p_first_fault) := ⟨rfl, rfl, rfl, by decide +kernel, rfl, by decide +kernel, by decide +kernel⟩
def firstR : PyData → V
  | .none => .int (-1)
  | _ => .non
/-- the first fault of no entries -/
def spFirst (K : PySem.W.Frag) (mg : Str → Option Value) (C : Addr) : Sp := fun vs H Q E => ∃ (b : Addr) (ys : List Str) (v ev : V) (d de : PyData), vs = [.ref b, v, ev] ∧ BookAt H C b ys ∧ Da K H v d ∧ (∀ ds, itemsF d = some ds → ∀ e ∈ ds, Lv 6 e) ∧ Da K H ev de ∧ (de = .list [] ∨ de = .none) ∧
  (fDue ys d = none → ∀ H', Same H H' → Q (firstR de) H') ∧
  (∀ c val, fDue ys d = some (c, val) → ∀ cls dd v' H', Same H H' → IsExc K mg c [("code", .str c), (fldOf c, v')] cls dd H' → Da K H' v' val → E cls dd H')
section
variable {P : Program} {w : World} {K : PySem.W.Frag} {mg : Str → Option Value} {base : Heap} {CB : Addr}
theorem has_p_first_fault (Z : Zs mg) (B : ClsF K mg CB "Book" ["_finds", "_words"]) (A : At K mg "first_fault" s_p_first_fault ["book", "facts", "entries"]) (h_p_check_facts : HasX P w K mg base "check_facts" s_p_check_facts 10 ["finds", "facts"] (spCheckF K mg)) (h_p_is_listed : Has P w K mg base "is_listed" s_p_is_listed 1 ["value"] (spSeqQ K)) (h_p_is_entry : Has P w K mg base "_is_entry" s_p_is_entry 1 ["value", "at"] (spNo)) (h_p_is_right : Has P w K mg base "_is_right" s_p_is_right 1 ["book", "facts", "entries", "entry"] (spNo)) (h_c_Book_finds : HasM P w K mg base CB "finds" 1 ["self"] (spBFinds K CB)) : HasX P w K mg base "first_fault" s_p_first_fault 11 ["book", "facts", "entries"] (spFirst K mg CB) := by
  obtain ⟨f, fd, F, mg1, bd⟩ := A
  obtain ⟨f_p_check_facts, fd_p_check_facts, G_p_check_facts, m_p_check_facts, k_p_check_facts, b_p_check_facts, F_p_check_facts⟩ := h_p_check_facts
  obtain ⟨f_p_is_listed, fd_p_is_listed, G_p_is_listed, m_p_is_listed, k_p_is_listed, b_p_is_listed, F_p_is_listed⟩ := h_p_is_listed
  obtain ⟨f_p_is_entry, fd_p_is_entry, G_p_is_entry, m_p_is_entry, k_p_is_entry, b_p_is_entry, F_p_is_entry⟩ := h_p_is_entry
  obtain ⟨f_p_is_right, fd_p_is_right, G_p_is_right, m_p_is_right, k_p_is_right, b_p_is_right, F_p_is_right⟩ := h_p_is_right
  obtain ⟨f_c_Book_finds, fd_c_Book_finds, ME_c_Book_finds, G_c_Book_finds, b_c_Book_finds⟩ := h_c_Book_finds
  refine ⟨f, fd, ?_, mg1, F.kp, bd, F⟩
  refine F.okX sc_p_first_fault (fun vs H Q E h => ?_) (fun cdv A outer s H vs Q E hr h => ?_)
  · obtain ⟨b, ys, v, ev, d, de, rfl, _⟩ := h
    rfl
  · obtain ⟨b, ys, v, ev, d, de, rfl, bk, rv, hlv, re, hde, q1, q2⟩ := h
    refine ⟨_, (pss_cons (ps_expr (pe_call G_p_check_facts (hr.mono (by decide)) (by rfl) m_p_check_facts k_p_check_facts b_p_check_facts .nil (passes_call (takes_of rfl rfl rfl rfl) fun _ _ _ _ h => h) (pa_cons (pe_meth0 (pv 0) B.cl ME_c_Book_finds G_c_Book_finds (hr.mono (by decide)) b_c_Book_finds .nil (passes_call (takes_of rfl rfl rfl rfl) fun _ _ _ _ h => h)) (pa_cons (pv 1) pa_nil)))) (pss_cons (ps_if (pt_not (pt_val (pe_call G_p_is_listed (hr.mono (by decide)) (by rfl) m_p_is_listed k_p_is_listed b_p_is_listed .nil pass0 (pa_cons (pv 2) pa_nil)))) (pss_one (ps_ret (pe_un un_neg pe_int))) pss_nil) (pss_cons (ps_for (passes_of rfl) rfl (pi_enumLT (by rfl) Z.enumerate_ (pa_cons (pv 2) pa_nil)) (pg_tup (by rfl) (pgs_cons (pg_name (i := 3) sc_p_first_fault.nd rfl (Or.inl rfl)) (pgs_cons (pg_name (i := 4) sc_p_first_fault.nd rfl (Or.inl rfl)) pgs_nil))) (pss_one (ps_if (PW.pt (pw_or (pt_not (pt_val (pe_call G_p_is_entry (hr.mono (by decide)) (by rfl) m_p_is_entry k_p_is_entry b_p_is_entry .nil pass0 (pa_cons (pv 4) (pa_cons (pv 3) pa_nil))))) (pw_or1 (pt_not (pt_val (pe_call G_p_is_right (hr.mono (by decide)) (by rfl) m_p_is_right k_p_is_right b_p_is_right .nil pass0 (pa_cons (pv 0) (pa_cons (pv 1) (pa_cons (pv 2) (pa_cons (pv 4) pa_nil)))))))))) (pss_one (ps_ret (pv 3))) pss_nil))) (pss_one (ps_ret pe_non))))), ?_⟩
    obtain ⟨dx, fa, fs, e1, l1, l2, e2⟩ := bk.ex
    refine ⟨_, rfl, b, dx, fs, rfl, e1, l2, b, ys, rfl, bk, fun r H1 s1 nr er => ?_⟩
    refine ⟨_, rfl, r, ys, v, d, rfl, .inl (.inl er), rv.to s1, hlv, fun hn H2 s2 => ?_, fun c val hd cls dd v' H2 s2 ie rv' => q2 c val hd cls dd v' H2 (s1.trans s2) ie rv'⟩
    have s12 := s1.trans s2
    refine ⟨_, rfl, ev, de, rfl, re.to s12, fun H3 s3 => ?_⟩
    have s13 := s12.trans s3
    rcases hde with rfl | rfl
    · refine ⟨_, rfl, iteF ?_⟩
      cases re with
      | lst hq ty al =>
        cases al
        rename_i p
        refine ⟨_, rfl, p, [], rfl, .inl ⟨s13.seq hq, for_it walk_enum (fun i σ H' => ∃ y1 y2 : Option V, σ = [some (.ref b), some v, some (.ref p), y1, y2] ∧ Same H H') ⟨_, _, rfl, s13⟩ (fun i σ H' _ z => by obtain ⟨_, _, _, s⟩ := z; exact s.seq hq) ?_ ?_⟩⟩
        · rintro i x σ H4 H5 hi
          exact absurd hi (Nat.not_lt_zero i)
        rintro σ H4 ⟨y1, y2, rfl, s4⟩
        exact q1 hn H4 s4
    · exact ⟨_, rfl, iteT ⟨1, rfl, q1 hn H3 s13⟩⟩
end
end Th
namespace Th
open PySem PySem.Spec PyProof.Rows L2
abbrev s_p_shows : Stmt := topS 56
theorem sc_p_shows : FnScope ["book", "facts", "entries", "statement", "fault"] ["book", "facts", "entries", "statement"] (defScope s_p_shows) := ⟨rfl, rfl, rfl, by decide +kernel, rfl, by decide +kernel, by decide +kernel⟩
/-- whether no entries show a statement -/
def spShows (K : PySem.W.Frag) (mg : Str → Option Value) (C : Addr) : Sp := fun vs H Q E => ∃ (b : Addr) (ys : List Str) (v ev sv : V) (d de : PyData), vs = [.ref b, v, ev, sv] ∧ BookAt H C b ys ∧ Da K H v d ∧ (∀ ds, itemsF d = some ds → ∀ e ∈ ds, Lv 6 e) ∧ Da K H ev de ∧ (de = .list [] ∨ de = .none) ∧
  (fDue ys d = none → ∀ H', Same H H' → Q (.bl false) H') ∧
  (∀ c val, fDue ys d = some (c, val) → ∀ cls dd v' H', Same H H' → IsExc K mg c [("code", .str c), (fldOf c, v')] cls dd H' → Da K H' v' val → E cls dd H')
section
variable {P : Program} {w : World} {K : PySem.W.Frag} {mg : Str → Option Value} {base : Heap} {CB : Addr}
theorem has_p_shows (Z : Zs mg) (B : ClsF K mg CB "Book" ["_finds", "_words"]) (A : At K mg "shows" s_p_shows ["book", "facts", "entries", "statement"]) (h_p_first_fault : HasX P w K mg base "first_fault" s_p_first_fault 11 ["book", "facts", "entries"] (spFirst K mg CB)) : HasX P w K mg base "shows" s_p_shows 12 ["book", "facts", "entries", "statement"] (spShows K mg CB) := by
  obtain ⟨f, fd, F, mg1, bd⟩ := A
  obtain ⟨f_p_first_fault, fd_p_first_fault, G_p_first_fault, m_p_first_fault, k_p_first_fault, b_p_first_fault, F_p_first_fault⟩ := h_p_first_fault
  refine ⟨f, fd, ?_, mg1, F.kp, bd, F⟩
  refine F.okX sc_p_shows (fun vs H Q E h => ?_) (fun cdv A outer s H vs Q E hr h => ?_)
  · obtain ⟨b, ys, v, ev, sv, d, de, rfl, _⟩ := h
    rfl
  · obtain ⟨b, ys, v, ev, sv, d, de, rfl, bk, rv, hlv, re, hde, q1, q2⟩ := h
    refine ⟨_, (pss_cons (ps_set (i := 4) sc_p_shows.nd rfl (Or.inl rfl) (pe_call G_p_first_fault (hr.mono (by decide)) (by rfl) m_p_first_fault k_p_first_fault b_p_first_fault .nil (passes_call (takes_of rfl rfl rfl rfl) fun _ _ _ _ h => h) (pa_cons (pv 0) (pa_cons (pv 1) (pa_cons (pv 2) pa_nil))))) (pss_one (ps_ret (pe_and (pe_cmpR op_isN (pv 4) pe_non (nomark _)) (pe_and (pe_cmpR op_gt (pe_callB call_len_seq (by rfl) Z.len_ (by decide +kernel) (pa_cons (pv 2) pa_nil)) pe_int (nomark _)) (pe_one (pe_cmpR op_eq (pe_ix ix_list (pe_ix ix_list (pv 2) (pe_un un_neg pe_int) (fun _ _ => rfl)) pe_int (fun _ _ => rfl)) (pv 3) (nomark _)))))))), ?_⟩
    refine ⟨_, rfl, _, rfl, _, rfl, b, ys, v, ev, d, de, rfl, bk, rv, hlv, re, hde, fun hn H1 s1 => ?_, q2⟩
    rcases hde with rfl | rfl
    · cases re with
      | lst hq ty al =>
        cases al
        rename_i p
        refine ⟨_, rfl, rfl, _, rfl, iteT ?_⟩
        exact ⟨_, rfl, p, [], rfl, .inl (s1.seq hq), _, _, rfl, rfl, _, rfl, iteF (q1 hn H1 s1)⟩
    · exact ⟨_, rfl, rfl, _, rfl, iteF (q1 hn H1 s1)⟩
end
end Th
namespace Th
open PySem PySem.Spec PyProof.Rows L2
abbrev s_c_InvalidFind_init : Stmt := inClass (topS 5) 0
theorem sc_c_InvalidFind_init : FnScope ["self", "at"] ["self", "at"] (defScope s_c_InvalidFind_init) := ⟨rfl, rfl, rfl, by decide +kernel, rfl, by decide +kernel, by decide +kernel⟩

section
variable {P : Program} {w : World} {K : PySem.W.Frag} {mg : Str → Option Value} {base : Heap} {CB : Addr}
theorem has_c_InvalidFind_init {fI : Addr} {fd : FuncData} (Z : Zs mg) (F : Fun K "__init__" "InvalidFind.__init__" s_c_InvalidFind_init fI fd) (h_p_copied : Has P w K mg base "copied" s_p_copied 6 ["value"] (spCopy K 6)) : FnOk P w K mg base CX0 7 fI fd ["self", "at"] (spInit1 K "InvalidFind" "at" 6) := by
  obtain ⟨f_p_copied, fd_p_copied, G_p_copied, m_p_copied, k_p_copied, b_p_copied, F_p_copied⟩ := h_p_copied
  refine F.ok sc_c_InvalidFind_init (fun vs H Q E h => ?_) (fun cdv A outer s H vs Q E hr h => ?_)
  · obtain ⟨a, C, v, d, rfl, _⟩ := h
    rfl
  · obtain ⟨a, C, v, d, rfl, G, n1, n2, ea, rv, lv, q⟩ := h
    refine ⟨_, (pss_cons (ps_put (pv 0) (pe_call G_p_copied (hr.mono (by decide)) (by rfl) m_p_copied k_p_copied b_p_copied .nil pass0 (pa_cons (pv 1) pa_nil))) (pss_one (ps_put (pv 0) pe_str))), ?_⟩
    refine ⟨_, rfl, v, d, fun b => b = a, rfl, fun b hb => (by rw [hb, ea]; exact fun z => nomatch z), rv.kd fun b o e p => ?_, lv, fun v' H1 s1 rv' => ?_⟩
    · rw [hidS_out fun z => ?_]
      · exact e
      · rw [z, ea] at e
        exact p.1 _ (Option.some.inj e).symm
    · have ea1 := s1 _ _ ea
      refine ⟨_, rfl, a, C, rfl, G, n1, .inl ⟨ea1, fun dx nd ne => ?_⟩⟩
      refine ⟨_, rfl, a, C, rfl, G, n2, .inr ⟨dx, [("at", v')], upd_same, ?_, (by show 1 ≤ 900; decide), ?_⟩⟩
      · rw [upd_ne ne]; exact upd_same
      · exact q H1 v' dx s1 (rv'.to hidS_same) nd ne
end
end Th
namespace Th
open PySem PySem.Spec PyProof.Rows L2
abbrev s_p_check_finds : Stmt := topS 32
theorem sc_p_check_finds : FnScope ["finds", "at", "name"] ["finds"] (defScope s_p_check_finds) := ⟨rfl, rfl, rfl, by decide +kernel, rfl, by decide +kernel, by decide +kernel⟩
/-- finds as they should be -/
def spGoodF (K : PySem.W.Frag) : Sp := fun vs H Q _ => ∃ (a : Addr) (xs : List Str), vs = [.ref a] ∧ SqL K H a (xs.map V.str) ∧ TyX K H (.ref a) (.type "list") ∧ Nms xs ∧ xs ≠ [] ∧ xs.length ≤ 12 ∧ ∀ H', Same H H' → Q .non H'
section
variable {P : Program} {w : World} {K : PySem.W.Frag} {mg : Str → Option Value} {base : Heap} {CB : Addr}
theorem has_p_check_finds (Z : Zs mg) (gMF : ∃ t, mg "MOST_FINDS" = some (.int 12 t)) (A : At K mg "check_finds" s_p_check_finds ["finds"]) (h_p_is_listed : Has P w K mg base "is_listed" s_p_is_listed 1 ["value"] (spSeqQ K)) (h_p_is_name : Has P w K mg base "is_name" s_p_is_name 1 ["value"] (spJ K 5 nmD)) (h_c_InvalidFind_init : HasE P w K mg base "InvalidFind" "InvalidFind.__init__" s_c_InvalidFind_init ["self", "at"] ["at", "code"] 7 (spInit1 K "InvalidFind" "at" 6)) (h_c_TooMany_init : HasE P w K mg base "TooMany" "TooMany.__init__" s_c_TooMany_init ["self", "most"] ["most", "code"] 7 (spInit1 K "TooMany" "most" 6)) : HasX P w K mg base "check_finds" s_p_check_finds 9 ["finds"] (spGoodF K) := by
  obtain ⟨f, fd, F, mg1, bd⟩ := A
  obtain ⟨f_p_is_listed, fd_p_is_listed, G_p_is_listed, m_p_is_listed, k_p_is_listed, b_p_is_listed, F_p_is_listed⟩ := h_p_is_listed
  obtain ⟨f_p_is_name, fd_p_is_name, G_p_is_name, m_p_is_name, k_p_is_name, b_p_is_name, F_p_is_name⟩ := h_p_is_name
  obtain ⟨C_c_InvalidFind_init, fI_c_InvalidFind_init, fd_c_InvalidFind_init, E_c_InvalidFind_init, G_c_InvalidFind_init⟩ := h_c_InvalidFind_init
  obtain ⟨C_c_TooMany_init, fI_c_TooMany_init, fd_c_TooMany_init, E_c_TooMany_init, G_c_TooMany_init⟩ := h_c_TooMany_init
  obtain ⟨tMF, g_MOST_FINDS⟩ := gMF
  refine ⟨f, fd, ?_, mg1, F.kp, bd, F⟩
  refine F.okX sc_p_check_finds (fun vs H Q E h => ?_) (fun cdv A outer s H vs Q E hr h => ?_)
  · obtain ⟨a, xs, rfl, _⟩ := h
    rfl
  · obtain ⟨a, xs, rfl, ha, ty, nm, ne, hl, q⟩ := h
    refine ⟨_, (pss_cons (ps_if (PW.pt (pw_or (pt_not (pt_val (pe_call G_p_is_listed (hr.mono (by decide)) (by rfl) m_p_is_listed k_p_is_listed b_p_is_listed .nil pass0 (pa_cons (pv 0) pa_nil)))) (pw_or1 (pt_cmpR op_eq (pe_callB call_len_seq (by rfl) Z.len_ (by decide +kernel) (pa_cons (pv 0) pa_nil)) pe_int (nomark _))))) (pss_one (ps_raise rfl (takes_of rfl rfl rfl rfl) (pmk_new E_c_InvalidFind_init.g E_c_InvalidFind_init.ini E_c_InvalidFind_init.tI G_c_InvalidFind_init (hr.mono (by decide)) E_c_InvalidFind_init.b (by rfl) E_c_InvalidFind_init.m (pa_cons (pe_un un_neg pe_int) pa_nil)))) pss_nil) (pss_cons (ps_if (pt_cmpR op_gt (pe_callB call_len_seq (by rfl) Z.len_ (by decide +kernel) (pa_cons (pv 0) pa_nil)) (pe_glob (v := .int 12) (by rfl) g_MOST_FINDS ⟨_, rfl⟩) (nomark _)) (pss_one (ps_raise rfl (takes_of rfl rfl rfl rfl) (pmk_new E_c_TooMany_init.g E_c_TooMany_init.ini E_c_TooMany_init.tI G_c_TooMany_init (hr.mono (by decide)) E_c_TooMany_init.b (by rfl) E_c_TooMany_init.m (pa_cons (pe_glob (v := .int 12) (by rfl) g_MOST_FINDS ⟨_, rfl⟩) pa_nil)))) pss_nil) (pss_one (ps_for (passes_of rfl) rfl (pi_enumLT (by rfl) Z.enumerate_ (pa_cons (pv 0) pa_nil)) (pg_tup (by rfl) (pgs_cons (pg_name (i := 1) sc_p_check_finds.nd rfl (Or.inl rfl)) (pgs_cons (pg_name (i := 2) sc_p_check_finds.nd rfl (Or.inl rfl)) pgs_nil))) (pss_one (ps_if (PW.pt (pw_or (pt_not (pt_val (pe_call G_p_is_name (hr.mono (by decide)) (by rfl) m_p_is_name k_p_is_name b_p_is_name .nil pass0 (pa_cons (pv 2) pa_nil)))) (pw_or1 (pt_cmpR op_in_seq (pv 2) (pe_slice sl_list (pv 0) po_none (po_some (pv 1))) (by rfl))))) (pss_one (ps_raise rfl (takes_of rfl rfl rfl rfl) (pmk_new E_c_InvalidFind_init.g E_c_InvalidFind_init.ini E_c_InvalidFind_init.tI G_c_InvalidFind_init (hr.mono (by decide)) E_c_InvalidFind_init.b (by rfl) E_c_InvalidFind_init.m (pa_cons (pv 1) pa_nil)))) pss_nil)))))), ?_⟩
    have lm : (xs.map V.str).length = xs.length := List.length_map _
    have ra : Da K H (.ref a) (.list (xs.map .str)) := .lst ha ty (DaAll.strs xs)
    have l0 : 0 < xs.length := List.length_pos_iff.mpr ne
    refine ⟨_, rfl, _, _, rfl, ra, fun H1 s1 => ⟨_, rfl, iteF ⟨_, rfl, a, _, rfl, .inl (s1.seq ha), rfl, _, rfl, ite2 (fun z => ?_) (fun _ => ?_)⟩⟩⟩
    · have z := V.int.inj (of_decide_eq_true z)
      omega
    refine ⟨_, rfl, a, _, rfl, .inl (s1.seq ha), _, _, rfl, rfl, _, rfl, ite2 (fun z => ?_) (fun _ => ?_)⟩
    · have z := of_decide_eq_true z
      omega
    refine ⟨_, rfl, a, xs.map V.str, rfl, .inl ⟨s1.seq ha, for_it walk_enum (fun i σ H' => ∃ y1 y2 : Option V, σ = [some (.ref a), y1, y2] ∧ Same H H') ⟨_, _, rfl, s1⟩ (fun i σ H' _ z => by obtain ⟨_, _, _, s⟩ := z; exact s.seq ha) ?_ ?_⟩⟩
    · rintro i x σ H2 H3 _ ⟨y1, y2, rfl, s2⟩ ⟨T, x1, x2, rfl, nT, rfl, e1, e2⟩
      cases e1
      obtain ⟨y, hy, rfl⟩ := getmap e2
      have hyl := lt_of_get hy
      have s3 := s2.trans (same_new (o := .tup [.int (i : Nat), .str y]) nT)
      have nmy := nm.2 y (List.mem_of_getElem? hy)
      refine ⟨T, _, rfl, .inl (.inl upd_same), rfl, _, _, rfl, _, _, rfl, rfl, ?_⟩
      refine ⟨_, rfl, .str y, .str y, rfl, .str _, lv_nm nmy, fun H4 s4 => ⟨_, rfl, ?_⟩⟩
      rw [show nmD (.str y) = true from nmy]
      have s34 := s3.trans s4
      refine iteF ⟨_, rfl, _, rfl, _, rfl, (i : Int), rfl, a, _, rfl, s34.seq ha, fun R nR => ?_⟩
      have s5 := s34.trans (same_new (o := .lst (cutV (xs.map V.str) none (some (i : Int)))) nR)
      have ec : cutV (xs.map V.str) none (some (i : Int)) = (xs.take i).map V.str := by rw [cut_to _ (Int.natCast_nonneg i), Int.toNat_natCast, List.map_take]
      rw [ec] at s5 ⊢
      refine ⟨R, _, rfl, .inl (.inl (.inl upd_same)), rfl, flatS _, _, rfl, ?_⟩
      rw [inS]
      refine ite2 (fun hm => ?_) (fun hm => ⟨_, _, rfl, s5⟩)
      have hm' : y ∈ xs.take i := by simpa using hm
      obtain ⟨j, hj⟩ := List.getElem?_of_mem hm'
      rw [List.getElem?_take] at hj
      by_cases z : j < i
      · rw [if_pos z] at hj
        have := nodup_at nm.1 hy hj
        omega
      · rw [if_neg z] at hj
        cases hj
    · rintro σ H2 ⟨y1, y2, rfl, s2⟩
      exact q H2 s2
end
end Th
namespace Th
open PySem PySem.Spec PyProof.Rows L2
abbrev s_c_InvalidWord_init : Stmt := inClass (topS 6) 0
theorem sc_c_InvalidWord_init : FnScope ["self", "at"] ["self", "at"] (defScope s_c_InvalidWord_init) := ⟨rfl, rfl, rfl, by decide +kernel, rfl, by decide +kernel, by decide +kernel⟩

section
variable {P : Program} {w : World} {K : PySem.W.Frag} {mg : Str → Option Value} {base : Heap} {CB : Addr}
theorem has_c_InvalidWord_init {fI : Addr} {fd : FuncData} (Z : Zs mg) (F : Fun K "__init__" "InvalidWord.__init__" s_c_InvalidWord_init fI fd) (h_p_copied : Has P w K mg base "copied" s_p_copied 6 ["value"] (spCopy K 6)) : FnOk P w K mg base CX0 7 fI fd ["self", "at"] (spInit1 K "InvalidWord" "at" 6) := by
  obtain ⟨f_p_copied, fd_p_copied, G_p_copied, m_p_copied, k_p_copied, b_p_copied, F_p_copied⟩ := h_p_copied
  refine F.ok sc_c_InvalidWord_init (fun vs H Q E h => ?_) (fun cdv A outer s H vs Q E hr h => ?_)
  · obtain ⟨a, C, v, d, rfl, _⟩ := h
    rfl
  · obtain ⟨a, C, v, d, rfl, G, n1, n2, ea, rv, lv, q⟩ := h
    refine ⟨_, (pss_cons (ps_put (pv 0) (pe_call G_p_copied (hr.mono (by decide)) (by rfl) m_p_copied k_p_copied b_p_copied .nil pass0 (pa_cons (pv 1) pa_nil))) (pss_one (ps_put (pv 0) pe_str))), ?_⟩
    refine ⟨_, rfl, v, d, fun b => b = a, rfl, fun b hb => (by rw [hb, ea]; exact fun z => nomatch z), rv.kd fun b o e p => ?_, lv, fun v' H1 s1 rv' => ?_⟩
    · rw [hidS_out fun z => ?_]
      · exact e
      · rw [z, ea] at e
        exact p.1 _ (Option.some.inj e).symm
    · have ea1 := s1 _ _ ea
      refine ⟨_, rfl, a, C, rfl, G, n1, .inl ⟨ea1, fun dx nd ne => ?_⟩⟩
      refine ⟨_, rfl, a, C, rfl, G, n2, .inr ⟨dx, [("at", v')], upd_same, ?_, (by show 1 ≤ 900; decide), ?_⟩⟩
      · rw [upd_ne ne]; exact upd_same
      · exact q H1 v' dx s1 (rv'.to hidS_same) nd ne
end
end Th
namespace Th
open PySem PySem.Spec PyProof.Rows L2
abbrev s_p_is_word_of : Stmt := topS 46
theorem sc_p_is_word_of : FnScope ["finds", "value"] ["finds", "value"] (defScope s_p_is_word_of) := ⟨rfl, rfl, rfl, by decide +kernel, rfl, by decide +kernel, by decide +kernel⟩

section
variable {P : Program} {w : World} {K : PySem.W.Frag} {mg : Str → Option Value} {base : Heap} {CB : Addr}
theorem has_p_is_word_of (Z : Zs mg) (A : At K mg "_is_word_of" s_p_is_word_of ["finds", "value"]) : Has P w K mg base "_is_word_of" s_p_is_word_of 1 ["finds", "value"] (spNo) := by
  obtain ⟨f, fd, F, mg1, bd⟩ := A
  exact ⟨f, fd, no_ok, mg1, F.kp, bd, F⟩
end
end Th
namespace Th
open PySem PySem.Spec PyProof.Rows L2
abbrev s_c_Book_init : Stmt := inClass (topS 45) 0
theorem sc_c_Book_init : FnScope ["self", "finds", "words", "at", "word", "mark", "_"] ["self", "finds", "words"] (defScope s_c_Book_init) := ⟨rfl, rfl, rfl, by decide +kernel, rfl, by decide +kernel, by decide +kernel⟩
/-- a book without words is made -/
def spBInit (K : PySem.W.Frag) (C : Addr) : Sp := fun vs H Q _ => ∃ (b dx p t : Addr) (xs : List Str), vs = [.ref b, .ref p, .ref t] ∧ SqL K H p (xs.map V.str) ∧ TyX K H (.ref p) (.type "list") ∧ Nms xs ∧ xs ≠ [] ∧ xs.length ≤ 12 ∧ SqT K H t [] ∧ TyX K H (.ref t) (.type "tuple") ∧ H b = some (.ins C dx []) ∧
  ∀ (ys : List Str) H', ys.Perm xs → sortedS ys = true → BookAt H' C b ys → (∀ c o, c ≠ b → H c = some o → H' c = some o) → Q .non H'
theorem dup_nil : dupAt [] = none := rfl
section
variable {P : Program} {w : World} {K : PySem.W.Frag} {mg : Str → Option Value} {base : Heap} {CB : Addr}
theorem has_c_Book_init {f : Addr} {fd : FuncData} {dvs : List V} (Z : Zs mg) (gMW : ∃ t, mg "MOST_WORDS" = some (.int 40 t)) (B : ClsF K mg CB "Book" ["_finds", "_words"]) (F : FunD K "__init__" "Book.__init__" (defArgs s_c_Book_init) (defBody s_c_Book_init) (defScope s_c_Book_init) dvs [] f fd) (h_p_check_finds : HasX P w K mg base "check_finds" s_p_check_finds 9 ["finds"] (spGoodF K)) (h_p_is_listed : Has P w K mg base "is_listed" s_p_is_listed 1 ["value"] (spSeqQ K)) (h_c_InvalidWord_init : HasE P w K mg base "InvalidWord" "InvalidWord.__init__" s_c_InvalidWord_init ["self", "at"] ["at", "code"] 7 (spInit1 K "InvalidWord" "at" 6)) (h_c_TooMany_init : HasE P w K mg base "TooMany" "TooMany.__init__" s_c_TooMany_init ["self", "most"] ["most", "code"] 7 (spInit1 K "TooMany" "most" 6)) (h_p_is_word_of : Has P w K mg base "_is_word_of" s_p_is_word_of 1 ["finds", "value"] (spNo)) (h_p_check_different : HasX P w K mg base "check_different" s_p_check_different 9 ["names"] (spDiff K mg)) : FnOk P w K mg base (L2.CX P w) 10 f fd ["self", "finds", "words"] (spBInit K CB) := by
  obtain ⟨f_p_check_finds, fd_p_check_finds, G_p_check_finds, m_p_check_finds, k_p_check_finds, b_p_check_finds, F_p_check_finds⟩ := h_p_check_finds
  obtain ⟨f_p_is_listed, fd_p_is_listed, G_p_is_listed, m_p_is_listed, k_p_is_listed, b_p_is_listed, F_p_is_listed⟩ := h_p_is_listed
  obtain ⟨C_c_InvalidWord_init, fI_c_InvalidWord_init, fd_c_InvalidWord_init, E_c_InvalidWord_init, G_c_InvalidWord_init⟩ := h_c_InvalidWord_init
  obtain ⟨C_c_TooMany_init, fI_c_TooMany_init, fd_c_TooMany_init, E_c_TooMany_init, G_c_TooMany_init⟩ := h_c_TooMany_init
  obtain ⟨f_p_is_word_of, fd_p_is_word_of, G_p_is_word_of, m_p_is_word_of, k_p_is_word_of, b_p_is_word_of, F_p_is_word_of⟩ := h_p_is_word_of
  obtain ⟨f_p_check_different, fd_p_check_different, G_p_check_different, m_p_check_different, k_p_check_different, b_p_check_different, F_p_check_different⟩ := h_p_check_different
  obtain ⟨tMW, g_MOST_WORDS⟩ := gMW
  refine F.ok (CX := L2.CX P w) sc_c_Book_init (fun vs H Q E h => ?_) (fun cdv A outer s H vs Q E hr h => ?_)
  · obtain ⟨b, dx, p, t, xs, rfl, _⟩ := h
    rfl
  · obtain ⟨b, dx, p, t, xs, rfl, hp, tp, nm, ne, hl, ht, tt, eb, q⟩ := h
    refine ⟨_, (pss_cons (ps_expr (pe_call G_p_check_finds (hr.mono (by decide)) (by rfl) m_p_check_finds k_p_check_finds b_p_check_finds .nil (passes_call (takes_of rfl rfl rfl rfl) fun _ _ _ _ h => h) (pa_cons (pv 1) pa_nil))) (pss_cons (ps_if (pt_not (pt_val (pe_call G_p_is_listed (hr.mono (by decide)) (by rfl) m_p_is_listed k_p_is_listed b_p_is_listed .nil pass0 (pa_cons (pv 2) pa_nil)))) (pss_one (ps_raise rfl (takes_of rfl rfl rfl rfl) (pmk_new E_c_InvalidWord_init.g E_c_InvalidWord_init.ini E_c_InvalidWord_init.tI G_c_InvalidWord_init (hr.mono (by decide)) E_c_InvalidWord_init.b (by rfl) E_c_InvalidWord_init.m (pa_cons (pe_un un_neg pe_int) pa_nil)))) pss_nil) (pss_cons (ps_if (pt_cmpR op_gt (pe_callB call_len_seq (by rfl) Z.len_ (by decide +kernel) (pa_cons (pv 2) pa_nil)) (pe_glob (v := .int 40) (by rfl) g_MOST_WORDS ⟨_, rfl⟩) (nomark _)) (pss_one (ps_raise rfl (takes_of rfl rfl rfl rfl) (pmk_new E_c_TooMany_init.g E_c_TooMany_init.ini E_c_TooMany_init.tI G_c_TooMany_init (hr.mono (by decide)) E_c_TooMany_init.b (by rfl) E_c_TooMany_init.m (pa_cons (pe_glob (v := .int 40) (by rfl) g_MOST_WORDS ⟨_, rfl⟩) pa_nil)))) pss_nil) (pss_cons (ps_for (passes_of rfl) rfl (pi_enumLT (by rfl) Z.enumerate_ (pa_cons (pv 2) pa_nil)) (pg_tup (by rfl) (pgs_cons (pg_name (i := 3) sc_c_Book_init.nd rfl (Or.inl rfl)) (pgs_cons (pg_name (i := 4) sc_c_Book_init.nd rfl (Or.inl rfl)) pgs_nil))) (pss_one (ps_if (pt_not (pt_val (pe_call G_p_is_word_of (hr.mono (by decide)) (by rfl) m_p_is_word_of k_p_is_word_of b_p_is_word_of .nil pass0 (pa_cons (pv 1) (pa_cons (pv 4) pa_nil))))) (pss_one (ps_raise rfl (takes_of rfl rfl rfl rfl) (pmk_new E_c_InvalidWord_init.g E_c_InvalidWord_init.ini E_c_InvalidWord_init.tI G_c_InvalidWord_init (hr.mono (by decide)) E_c_InvalidWord_init.b (by rfl) E_c_InvalidWord_init.m (pa_cons (pv 3) pa_nil)))) pss_nil))) (pss_cons (ps_expr (pe_call G_p_check_different (hr.mono (by decide)) (by rfl) m_p_check_different k_p_check_different b_p_check_different .nil (passes_call (takes_of rfl rfl rfl rfl) fun _ _ _ _ h => h) (pa_cons (pe_lc (own := [("mark", 5), ("_", 6)]) (g := gTup K 2 (gCons (gName 5) (gCons (gName 6) gNil))) (by rfl) sc_c_Book_init.nd (pi_tup (pv 2)) (blkOk_by (own := [("mark", 5), ("_", 6)]) (N := ["self", "finds", "words", "at", "word", "mark", "_"]) (sc := defScope s_c_Book_init) (by decide +kernel)) (fun _ _ _ _ _ => (pg_tup (by rfl) (pgs_cons (pg_name (i := 5) sc_c_Book_init.nd rfl (Or.inl rfl)) (pgs_cons (pg_name (i := 6) sc_c_Book_init.nd rfl (Or.inl rfl)) pgs_nil)))) (fun _ _ _ _ _ => pts_nil) (fun _ _ _ _ _ => (pv 5))) pa_nil))) (pss_cons (ps_fld (pv 0) (pe_callB cr_sortedS (by rfl) Z.sorted_ (by decide +kernel) (pa_cons (pv 1) pa_nil)) rfl) (pss_one (ps_fld (pv 0) (pe_callTy call_list_of (by rfl) Z.list_ (by decide +kernel) (pa_cons (pv 2) pa_nil)) rfl)))))))), ?_⟩
    refine ⟨_, rfl, p, xs, rfl, hp, tp, nm, ne, hl, fun H1 s1 => ?_⟩
    refine ⟨_, rfl, _, .tuple [], rfl, .tup (same_t s1 ht) (ty_same s1 tt) .nil, fun H2 s2 => ⟨_, rfl, iteF ?_⟩⟩
    have s12 := s1.trans s2
    refine ⟨_, rfl, t, _, rfl, .inr (same_t s12 ht), _, _, rfl, rfl, _, rfl, iteF ?_⟩
    refine ⟨_, rfl, t, [], rfl, .inr ⟨same_t s12 ht, for_it walk_enumT (fun i σ H' => ∃ y1 y2 : Option V, σ = [some (.ref b), some (.ref p), some (.ref t), y1, y2, none, none] ∧ Same H H') ⟨_, _, rfl, s12⟩ (fun i σ H' _ z => by obtain ⟨_, _, _, s⟩ := z; exact same_t s ht) ?_ ?_⟩⟩
    · rintro i x σ H3 H4 hi
      exact absurd hi (Nat.not_lt_zero i)
    rintro σ H3 ⟨y1, y2, rfl, s3⟩
    -- no marks
    refine ⟨_, rfl, t, rfl, ⟨_, same_t s3 ht⟩, fun L nL => ?_⟩
    refine lc_tup (K := K) (a := t) (xs := []) (fun i H4 => Same H3 H4 ∧ H4 L = some (.lst (([] : List Str).map V.str))) ⟨same_new nL, upd_same⟩ (fun i H4 _ z => same_t (s3.trans z.1) ht) ?_ ?_
    · intro i x H4 hi
      cases hi
    rintro H4 ⟨s4, e4⟩
    refine ⟨L, [], rfl, .inl (.inl e4), by show 0 ≤ 1000; decide, (fun _ z => nomatch z), fun _ H5 s5 => ?_, fun x z => (by rw [dup_nil] at z; cases z)⟩
    have s35 := s3.trans (s4.trans s5)
    refine ⟨_, rfl, p, xs, rfl, s35.seq hp, by omega, fun ys r pm so nr => ?_⟩
    have s6 := s35.trans (same_new (o := .lst (ys.map V.str)) nr)
    have er : (upd H5 r (.lst (ys.map V.str))) r = some (.lst (ys.map V.str)) := upd_same
    generalize upd H5 r (.lst (ys.map V.str)) = H6 at s6 er ⊢
    have eb6 := s6 _ _ eb
    have nrb : r ≠ b := fun z => by rw [z] at er; rw [eb6] at er; cases er
    refine ⟨_, rfl, b, CB, dx, [], rfl, eb6, B.cl, B.na _ (by decide), by decide, ?_⟩
    have keep : ∀ c o, c ≠ b → H c = some o → (upd H6 b (.ins CB dx (putF "_finds" (.ref r) []))) c = some o := fun c o n e => by rw [upd_ne n]; exact s6 _ _ e
    have et : (upd H6 b (.ins CB dx (putF "_finds" (.ref r) []))) b = some (.ins CB dx (putF "_finds" (.ref r) [])) := upd_same
    have er7 : (upd H6 b (.ins CB dx (putF "_finds" (.ref r) []))) r = some (.lst (ys.map V.str)) := by rw [upd_ne nrb]; exact er
    have ht7 : SqT K (upd H6 b (.ins CB dx (putF "_finds" (.ref r) []))) t [] := by
      rcases same_t s6 ht with (h | ⟨o, h⟩) | h
      · exact .inl (.inl (by rw [upd_ne (fun z => by rw [z, eb6] at h; cases h)]; exact h))
      · exact .inl (.inr ⟨o, by rw [upd_ne (fun z => by rw [z, eb6] at h; cases h)]; exact h⟩)
      · exact .inr h
    generalize upd H6 b (.ins CB dx (putF "_finds" (.ref r) [])) = H7 at keep et er7 ht7 ⊢
    refine ⟨_, rfl, t, [], rfl, .inr ht7, fun l nl => ?_⟩
    have nlb : l ≠ b := fun z => by rw [z, et] at nl; cases nl
    have et8 := kp (u := .lst []) et nl
    refine ⟨_, rfl, b, CB, dx, _, rfl, et8, B.cl, B.na _ (by decide), by show 1 < 1000; decide, ?_⟩
    refine q ys _ pm so ⟨dx, r, _, upd_same, ?_, ?_, ?_⟩ fun c o n e => ?_
    · rw [lookup_putF, if_neg (by decide +kernel), lookup_putF, if_pos rfl]
    · rw [lookup_putF, if_neg (by decide +kernel), lookup_putF, if_neg (by decide +kernel)]
      rfl
    · rw [upd_ne nrb]
      exact kp er7 nl
    · rw [upd_ne n]
      exact kp (keep c o n e) nl
end
end Th
namespace Th
open PySem PySem.Spec PyProof.Rows L2
abbrev s_l_fields : Stmt := topS 89
theorem sc_l_fields : FnScope ["_law_e"] ["_law_e"] (defScope s_l_fields) := ⟨rfl, rfl, rfl, by decide +kernel, rfl, by decide +kernel, by decide +kernel⟩
def atC : List Str := ["InvalidLot", "InvalidFind", "InvalidWord", "InvalidFact"]
def nameC : List Str := ["DuplicateName", "UnknownName", "UnknownFind"]
/-- the fields that are told of an error -/
def FlA (code : Str) (fs : List (Str × V)) (ws : List V) : Prop :=
  (code = "InvalidName" ∧ ∃ v, fs.lookup ("value" : Str) = some v ∧ ws = [v]) ∨ (code ∈ atC ∧ ∃ v, fs.lookup ("at" : Str) = some v ∧ ws = [v]) ∨ (code ∈ nameC ∧ ∃ v, fs.lookup ("name" : Str) = some v ∧ ws = [v]) ∨
  (code = "InvalidText" ∧ ∃ v u, fs.lookup ("line" : Str) = some v ∧ fs.lookup ("why" : Str) = some u ∧ ws = [v, u]) ∨ (code = "TooMany" ∧ ∃ v, fs.lookup ("most" : Str) = some v ∧ ws = [v]) ∨
  (code ≠ "InvalidName" ∧ code ∉ atC ∧ code ∉ nameC ∧ code ≠ "InvalidText" ∧ code ≠ "TooMany" ∧ ws = [])
theorem FlA.c1 {code : Str} {fs : List (Str × V)} {ws : List V} (h : FlA code fs ws) (e : code = "InvalidName") : ∃ v, fs.lookup ("value" : Str) = some v ∧ ws = [v] := by
  subst e
  rcases h with ⟨_, h⟩ | ⟨m, _⟩ | ⟨m, _⟩ | ⟨m, _⟩ | ⟨m, _⟩ | ⟨m, _⟩
  · exact h
  · exact absurd m (by decide +kernel)
  · exact absurd m (by decide +kernel)
  · exact absurd m (by decide +kernel)
  · exact absurd m (by decide +kernel)
  · exact absurd rfl m
theorem FlA.c2 {code : Str} {fs : List (Str × V)} {ws : List V} (h : FlA code fs ws) (e : code ∈ atC) : ∃ v, fs.lookup ("at" : Str) = some v ∧ ws = [v] := by
  rcases h with ⟨m, _⟩ | ⟨_, h⟩ | ⟨m, _⟩ | ⟨m, _⟩ | ⟨m, _⟩ | ⟨_, m, _⟩
  · rw [m] at e; exact absurd e (by decide +kernel)
  · exact h
  · exact absurd m ((by decide +kernel : ∀ c ∈ atC, c ∉ nameC) code e)
  · rw [m] at e; exact absurd e (by decide +kernel)
  · rw [m] at e; exact absurd e (by decide +kernel)
  · exact absurd e m
theorem FlA.c3 {code : Str} {fs : List (Str × V)} {ws : List V} (h : FlA code fs ws) (e : code ∈ nameC) : ∃ v, fs.lookup ("name" : Str) = some v ∧ ws = [v] := by
  rcases h with ⟨m, _⟩ | ⟨m, _⟩ | ⟨_, h⟩ | ⟨m, _⟩ | ⟨m, _⟩ | ⟨_, _, m, _⟩
  · rw [m] at e; exact absurd e (by decide +kernel)
  · exact absurd m ((by decide +kernel : ∀ c ∈ nameC, c ∉ atC) code e)
  · exact h
  · rw [m] at e; exact absurd e (by decide +kernel)
  · rw [m] at e; exact absurd e (by decide +kernel)
  · exact absurd e m
theorem FlA.c4 {code : Str} {fs : List (Str × V)} {ws : List V} (h : FlA code fs ws) (e : code = "InvalidText") : ∃ v u, fs.lookup ("line" : Str) = some v ∧ fs.lookup ("why" : Str) = some u ∧ ws = [v, u] := by
  subst e
  rcases h with ⟨m, _⟩ | ⟨m, _⟩ | ⟨m, _⟩ | ⟨_, h⟩ | ⟨m, _⟩ | ⟨_, _, _, m, _⟩
  · exact absurd m (by decide +kernel)
  · exact absurd m (by decide +kernel)
  · exact absurd m (by decide +kernel)
  · exact h
  · exact absurd m (by decide +kernel)
  · exact absurd rfl m
theorem FlA.c5 {code : Str} {fs : List (Str × V)} {ws : List V} (h : FlA code fs ws) (e : code = "TooMany") : ∃ v, fs.lookup ("most" : Str) = some v ∧ ws = [v] := by
  subst e
  rcases h with ⟨m, _⟩ | ⟨m, _⟩ | ⟨m, _⟩ | ⟨m, _⟩ | ⟨_, h⟩ | ⟨_, _, _, _, m, _⟩
  · exact absurd m (by decide +kernel)
  · exact absurd m (by decide +kernel)
  · exact absurd m (by decide +kernel)
  · exact absurd m (by decide +kernel)
  · exact h
  · exact absurd rfl m
theorem FlA.c6 {code : Str} {fs : List (Str × V)} {ws : List V} (h : FlA code fs ws) (h1 : code ≠ "InvalidName") (h2 : code ∉ atC) (h3 : code ∉ nameC) (h4 : code ≠ "InvalidText") (h5 : code ≠ "TooMany") : ws = [] := by
  rcases h with ⟨m, _⟩ | ⟨m, _⟩ | ⟨m, _⟩ | ⟨m, _⟩ | ⟨m, _⟩ | ⟨_, _, _, _, _, h⟩
  · exact absurd m h1
  · exact absurd m h2
  · exact absurd m h3
  · exact absurd m h4
  · exact absurd m h5
  · exact h
theorem dec_str {x y : Str} : decide (V.str x = V.str y) = decide (x = y) := by
  rw [Bool.eq_iff_iff, decide_eq_true_eq, decide_eq_true_eq]
  exact ⟨fun h => V.str.inj h, fun h => by rw [h]⟩
theorem fld_of {K : PySem.W.Frag} {mg : Str → Option Value} {code : Str} {fs : List (Str × V)} {C dd : Addr} {H : Hp} (E : IsExc K mg code fs (.ref C) (some dd) H) : XfC K C ∧ (∀ (f : Str) v, fs.lookup f = some v → PySem.W.findIn K (.ref C) f = some none) ∧ H dd = some (.xd fs) := by
  obtain ⟨⟨C', dd', e1, e2, T, nf, e, _⟩, _⟩ := E
  cases e1
  cases e2
  exact ⟨T, fun f v l => nf f (List.mem_map.mpr ⟨(f, v), PySem.mem_of_lookup l, rfl⟩), e⟩
section
variable {P : Program} {w : World} {K : PySem.W.Frag} {mg : Str → Option Value} {base : Heap} {CB : Addr}
theorem has_l_fields (Z : Zs mg) (A : At K mg "_law_fields" s_l_fields ["_law_e"]) : HasQ P w K mg base "_law_fields" s_l_fields 1 ["_law_e"] (spFields K mg FlA) := by
  obtain ⟨f, fd, F, mg1, bd⟩ := A
  refine ⟨f, fd, ?_, mg1, F.kp, bd, F⟩
  refine quiet_ok F sc_l_fields (fun p vs H Q E h => ?_) (fun cdv A outer s H vs Q E p hr h => ?_)
  · obtain ⟨C, dd, code, fs, ws, rfl, _⟩ := h
    rfl
  · obtain ⟨C, dd, code, fs, ws, rfl, PX, X, fl, lw, q⟩ := h
    refine ⟨_, (pss_cons (ps_if (pt_cmpR op_eq (pe_pinf (p := p) List.mem_cons_self (pv 0)) pe_str (nomark _)) (pss_one (ps_ret (pe_tup (pa_cons (pe_pinf (p := p) List.mem_cons_self (pv 0)) pa_nil)))) pss_nil) (pss_cons (ps_if (pt_cmpR op_in_seq (pe_pinf (p := p) List.mem_cons_self (pv 0)) (pe_tup (pa_cons pe_str (pa_cons pe_str (pa_cons pe_str (pa_cons pe_str pa_nil))))) (by rfl)) (pss_one (ps_ret (pe_tup (pa_cons (pe_pinf (p := p) List.mem_cons_self (pv 0)) pa_nil)))) pss_nil) (pss_cons (ps_if (pt_cmpR op_in_seq (pe_pinf (p := p) List.mem_cons_self (pv 0)) (pe_tup (pa_cons pe_str (pa_cons pe_str (pa_cons pe_str pa_nil)))) (by rfl)) (pss_one (ps_ret (pe_tup (pa_cons (pe_pinf (p := p) List.mem_cons_self (pv 0)) pa_nil)))) pss_nil) (pss_cons (ps_if (pt_cmpR op_eq (pe_pinf (p := p) List.mem_cons_self (pv 0)) pe_str (nomark _)) (pss_one (ps_ret (pe_tup (pa_cons (pe_pinf (p := p) List.mem_cons_self (pv 0)) (pa_cons (pe_pinf (p := p) List.mem_cons_self (pv 0)) pa_nil))))) pss_nil) (pss_one (ps_ret (pe_ifExp (pt_cmpR op_eq (pe_pinf (p := p) List.mem_cons_self (pv 0)) pe_str (nomark _)) (pe_tup (pa_cons (pe_pinf (p := p) List.mem_cons_self (pv 0)) pa_nil)) (pe_tup pa_nil)))))))), ?_⟩
    obtain ⟨T, nf, ed⟩ := fld_of X
    have lc := X.code
    have hin : ∀ (xs : List Str), inV (V.str code) (xs.map V.str) = decide (code ∈ xs) := fun xs => inS code xs
    have s0 := Same.refl H
    refine ⟨_, rfl, rfl, C, dd, fs, _, PX, T, nf _ _ lc, ed, lc, rfl, _, rfl, ?_⟩
    rw [dec_str]
    refine ite2 (fun c1 => ?_) (fun c1 => ?_)
    · obtain ⟨v, l, rfl⟩ := fl.c1 (of_decide_eq_true c1)
      exact ⟨_, rfl, rfl, C, dd, fs, _, PX, T, nf _ _ l, ed, l, (by show 1 ≤ sizeLine; decide), fun r nr => q r _ (s0.trans (same_new nr)) (s0.free nr) upd_same⟩
    have e1 : code ≠ "InvalidName" := fun z => c1 (decide_eq_true z)
    refine ⟨_, rfl, rfl, C, dd, fs, _, PX, T, nf _ _ lc, ed, lc, (by show 4 ≤ sizeLine; decide), fun t1 n1 => ⟨t1, _, rfl, .inr (.inl (.inl upd_same)), rfl, rfl, _, rfl, ?_⟩⟩
    have s1 := same_new (o := .tup (atC.map V.str)) n1
    rw [if_neg Bool.false_ne_true, show inV (V.str code) [V.str "InvalidLot", V.str "InvalidFind", V.str "InvalidWord", V.str "InvalidFact"] = decide (code ∈ atC) from hin atC]
    refine ite2 (fun c2 => ?_) (fun c2 => ?_)
    · obtain ⟨v, l, rfl⟩ := fl.c2 (of_decide_eq_true c2)
      exact ⟨_, rfl, rfl, C, dd, fs, _, PX, T, nf _ _ l, s1 _ _ ed, l, (by show 1 ≤ sizeLine; decide), fun r nr => q r _ (s1.trans (same_new nr)) (s1.free nr) upd_same⟩
    have e2 : code ∉ atC := fun z => c2 (decide_eq_true z)
    refine ⟨_, rfl, rfl, C, dd, fs, _, PX, T, nf _ _ lc, s1 _ _ ed, lc, (by show 3 ≤ sizeLine; decide), fun t2 n2 => ⟨t2, _, rfl, .inr (.inl (.inl upd_same)), rfl, rfl, _, rfl, ?_⟩⟩
    have s2 := s1.trans (same_new (o := .tup (nameC.map V.str)) n2)
    rw [if_neg Bool.false_ne_true, show inV (V.str code) [V.str "DuplicateName", V.str "UnknownName", V.str "UnknownFind"] = decide (code ∈ nameC) from hin nameC]
    refine ite2 (fun c3 => ?_) (fun c3 => ?_)
    · obtain ⟨v, l, rfl⟩ := fl.c3 (of_decide_eq_true c3)
      exact ⟨_, rfl, rfl, C, dd, fs, _, PX, T, nf _ _ l, s2 _ _ ed, l, (by show 1 ≤ sizeLine; decide), fun r nr => q r _ (s2.trans (same_new nr)) (s2.free nr) upd_same⟩
    have e3 : code ∉ nameC := fun z => c3 (decide_eq_true z)
    refine ⟨_, rfl, rfl, C, dd, fs, _, PX, T, nf _ _ lc, s2 _ _ ed, lc, rfl, _, rfl, ?_⟩
    rw [dec_str]
    refine ite2 (fun c4 => ?_) (fun c4 => ?_)
    · obtain ⟨v, u, l, l2, rfl⟩ := fl.c4 (of_decide_eq_true c4)
      exact ⟨_, rfl, rfl, C, dd, fs, _, PX, T, nf _ _ l, s2 _ _ ed, l, _, rfl, rfl, C, dd, fs, _, PX, T, nf _ _ l2, s2 _ _ ed, l2, (by show 2 ≤ sizeLine; decide), fun r nr => q r _ (s2.trans (same_new nr)) (s2.free nr) upd_same⟩
    have e4 : code ≠ "InvalidText" := fun z => c4 (decide_eq_true z)
    refine ⟨_, rfl, rfl, C, dd, fs, _, PX, T, nf _ _ lc, s2 _ _ ed, lc, rfl, _, rfl, ?_⟩
    rw [dec_str]
    refine ite2 (fun c5 => ?_) (fun c5 => ?_)
    · obtain ⟨v, l, rfl⟩ := fl.c5 (of_decide_eq_true c5)
      exact ⟨_, rfl, rfl, C, dd, fs, _, PX, T, nf _ _ l, s2 _ _ ed, l, (by show 1 ≤ sizeLine; decide), fun r nr => q r _ (s2.trans (same_new nr)) (s2.free nr) upd_same⟩
    · have e5 : code ≠ "TooMany" := fun z => c5 (decide_eq_true z)
      have ew := fl.c6 e1 e2 e3 e4 e5
      subst ew
      exact ⟨Nat.zero_le _, fun r nr => q r _ (s2.trans (same_new nr)) (s2.free nr) upd_same⟩
end
end Th
namespace Th
open PySem PySem.Spec PyProof.Rows L2
abbrev s_l_try : Stmt := topS 90
theorem sc_l_try : FnScope ["_law_ask", "_law_e"] ["_law_ask"] (defScope s_l_try) := ⟨rfl, rfl, rfl, by decide +kernel, rfl, by decide +kernel, by decide +kernel⟩

theorem gives_l_try {X : Cx} {c1 c2 : Addr} (hr : Room 4 X.A) (hm1 : X.mg "FindError" = some (.ref c1)) (hm2 : X.mg "Missing" = some (.ref c2)) (h_l_fields : HasQ X.prog X.w X.K X.mg X.base "_law_fields" s_l_fields 1 ["_law_e"] (spFields X.K X.mg FlA)) {g : Addr} {cdg : Value} {q : Str} :
    LamX.GivesTo X ["_law_ask", "_law_e"] "_law_try" (defScope s_l_try) g cdg (defBody s_l_try) "_law_ask" q (TTry X.K X.mg FlA) := by
  obtain ⟨f_l_fields, fd_l_fields, G_l_fields, m_l_fields, k_l_fields, b_l_fields, F_l_fields⟩ := h_l_fields
  intro f c' s H Q tl act hc h
  have hrq : Room 1 (X.A.deeper (envOfC "_law_try" (defScope s_l_try) s.heap.objs.size g cdg)) := (hr.deeper _).mono (by decide)
  refine ⟨_, pss_one (ps_try_two (i := 1)
      (tb := fun W D σ H => ∃ Ech : XK, (∀ cls d σ' H', Ech cls d H' → W cls d σ' H') ∧ σ[0]? = some (some (.ref f)) ∧ H c' = some (LamX.CodeO c' q) ∧ tl Ech H fun v H1 => ([.str "told", v] : List V).length ≤ sizeLine ∧ ∀ p, H1 p = none → D.rt (.ref p) (upd H1 p (.tup [.str "told", v])))
      (ts := fun a cls d => tRet (tOp (rCatT X.K) (tTup (tCons (tC (.str "no")) (tCons (tPinA X.K 1 a cls d "code") tNil))) (tFieldsA X.K X.mg FlA 1 a cls d)))
      rfl rfl sc_l_try.nd rfl rfl (by rfl) (by decide) hm1 (by rfl) (by decide) hm2 (fun W pn xe tk => ?_) (fun a oe cls d pn hz hf => ?_)), ?_⟩
  · refine ⟨fun pins s' σ H' D I h' => ?_⟩
    obtain ⟨Ech, hW, h1, h2, h3⟩ := h'
    exact (pss_one (ps_ret (pe_tup (pa_cons pe_str (pa_cons (act W pn xe Ech _ _ tk hW) pa_nil))))).run pins s' σ H' D I ⟨h1, h2, h3⟩
  · exact pss_one (ps_ret (pe_op op_catT (pe_tup (pa_cons pe_str (pa_cons (pe_pinA (i := 1) List.mem_cons_self hz hf (pv 1)) pa_nil)))
        (pe_fieldsA (i := 1) List.mem_cons_self hz hf G_l_fields ⟨hrq.dp, hrq.un⟩ (by rfl) m_l_fields k_l_fields b_l_fields (pa_cons (pv 1) pa_nil))))
  · refine ⟨_, fun cls d σ' H' hE => ?_, rfl, hc, h⟩
    obtain ⟨code, fs, ws, X1, fl, lw, hq⟩ := hE
    obtain ⟨C, dd, rfl, rfl, T, nf, ed, ca⟩ := X1.ex
    have l1 : fs.lookup ("code" : Str) = some (V.str code) := X1.code
    refine ⟨ca c1 c2 hm1 hm2, fun a na hl => ?_⟩
    have at1 : (σ'.set 1 (some (V.ref a)))[1]? = some (some (V.ref a)) := List.getElem?_set_self hl
    refine ⟨at1, C, dd, fs, _, rfl, rfl, T, nf _ (List.mem_map.mpr ⟨_, PySem.mem_of_lookup l1, rfl⟩), ed, l1, (by show 2 ≤ sizeLine; decide), fun r nr => ?_⟩
    have s1 := same_new (o := .tup [.str "no", .str code]) nr
    have X2 : IsExc X.K X.mg code fs (.ref C) (some dd) (upd H' r (.tup [.str "no", .str code])) := ⟨⟨C, dd, rfl, rfl, T, nf, s1 _ _ ed, ca⟩, l1⟩
    refine ⟨at1, C, dd, code, fs, ws, rfl, rfl, X2, fl, lw, fun u H2 s2 nu eu => ?_⟩
    have er : H2 r = some (.tup [.str "no", .str code]) := s2 _ _ upd_same
    refine ⟨r, u, [.str "no", .str code], ws, rfl, rfl, .inl (.inl er), .inl (.inl eu), (fun z => nomatch z), ?_, fun e => ?_, fun ne z nz => ?_⟩
    · have := sizeLine_eq
      show 2 + ws.length ≤ sizeLine
      omega
    · subst e
      exact hq r H2 (s1.trans s2) nr er
    · exact hq z _ ((s1.trans s2).trans (same_new nz)) ((s1.trans s2).free nz) upd_same
end Th
namespace Th
open PySem PySem.Spec PyProof.Rows L2
abbrev s_p_law : Stmt := topS 97
theorem sc_p_law : FnScope ["_law_script", "_law_state", "_law_pool", "_law_labels", "_law_book_z", "_law_turn", "_law_many", "_law_claims", "_law_label", "_law_again", "_law_given", "_law_due", "_law_told", "_law_here", "_law_fault", "_law_shown", "_law_late", "_law_x"] ["_law_script"] (defScope s_p_law) := ⟨rfl, rfl, rfl, by decide +kernel, rfl, by decide +kernel, by decide +kernel⟩
theorem due_perm {xs ys : List Str} {d : PyData} (h : ∀ x, x ∈ ys ↔ x ∈ xs) : fDue ys d = fDue xs d := by
  have e : (fun x : Str => !decide (x ∈ ys)) = fun x => !decide (x ∈ xs) := funext fun x => by
    rw [show decide (x ∈ ys) = decide (x ∈ xs) from by rw [Bool.eq_iff_iff, decide_eq_true_eq, decide_eq_true_eq]; exact h x]
  unfold fDue
  rw [e]
/-- a number or a name -/
def Atom (val : PyData) : Prop := (∃ i, val = .int i) ∨ ∃ x, val = .str x ∧ isNm x = true
theorem due_cls {xs : List Str} {d : PyData} {c : Str} {val : PyData} (h : fDue xs d = some (c, val)) : c ∈ ([Str.ofString "InvalidFact", Str.ofString "TooMany", Str.ofString "DuplicateName", Str.ofString "UnknownFind"] : List Str) ∧ Atom val := by
  unfold fDue at h
  cases hi : itemsF d with
  | none =>
    rw [hi] at h
    cases h
    exact ⟨List.mem_cons_self, .inl ⟨_, rfl⟩⟩
  | some ds =>
    rw [hi] at h
    replace h : (if 30 < ds.length then dueE "TooMany" (.int 30) else match firstIx (fun k => !mfD (ds.getD k .none)) ds.length with
      | some k => dueE "InvalidFact" (.int (k : Int))
      | none => match dupAt (ds.map markOf) with
        | some x => dueE "DuplicateName" (.str x)
        | none => ((ds.flatMap namesOf).find? fun x => !decide (x ∈ xs)).bind fun x => dueE "UnknownFind" (.str x)) = some (c, val) := h
    by_cases hl : 30 < ds.length
    · rw [if_pos hl] at h
      cases h
      exact ⟨List.mem_cons_of_mem _ List.mem_cons_self, .inl ⟨_, rfl⟩⟩
    · rw [if_neg hl] at h
      cases hf : firstIx (fun k => !mfD (ds.getD k .none)) ds.length with
      | some k =>
        rw [hf] at h
        cases h
        exact ⟨List.mem_cons_self, .inl ⟨_, rfl⟩⟩
      | none =>
        rw [hf] at h
        have hall : ∀ e ∈ ds, mfD e = true := fun e he => by
          obtain ⟨j, hj⟩ := List.getElem?_of_mem he
          have := (List.find?_eq_none.mp hf) j (List.mem_range.mpr (lt_of_get hj))
          rw [getDd hj] at this
          cases hm : mfD e with
          | true => rfl
          | false => rw [hm] at this; exact absurd rfl this
        cases hd : dupAt (ds.map markOf) with
        | some x =>
          rw [hd] at h
          cases h
          refine ⟨List.mem_cons_of_mem _ (List.mem_cons_of_mem _ List.mem_cons_self), .inr ⟨x, rfl, ?_⟩⟩
          obtain ⟨k, hk, ex⟩ := Option.map_eq_some_iff.mp hd
          have hkl := List.mem_range.mp (List.mem_of_find?_eq_some hk)
          rw [List.length_map] at hkl
          obtain ⟨e, he⟩ : ∃ e, ds[k]? = some e := ⟨_, List.getElem?_eq_getElem hkl⟩
          have e2 := getD_of (xs := ds.map markOf) (k := k) (x := markOf e) (by rw [List.getElem?_map, he]; rfl)
          rw [← ex, e2]
          obtain ⟨m, t, rs, _, nm, _, em, _⟩ := mf_shape (hall e (List.mem_of_getElem? he))
          rw [em]
          exact nm
        | none =>
          rw [hd] at h
          obtain ⟨x, hx, ex⟩ := Option.bind_eq_some_iff.mp h
          cases ex
          refine ⟨List.mem_cons_of_mem _ (List.mem_cons_of_mem _ (List.mem_cons_of_mem _ List.mem_cons_self)), .inr ⟨x, rfl, ?_⟩⟩
          have hm := List.mem_of_find?_eq_some hx
          obtain ⟨e, he, hxe⟩ := List.mem_flatMap.mp hm
          obtain ⟨m, t, rs, _, _, nr, _, en⟩ := mf_shape (hall e he)
          rw [en] at hxe
          exact nr x hxe
theorem Atom.any {K : PySem.W.Frag} {H : Hp} {v : V} {val : PyData} (a : Atom val) (h : Da K H v val) : ∀ H' : Hp, Da K H' v val := by
  rcases a with ⟨i, rfl⟩ | ⟨x, rfl, _⟩
  · cases h
    exact fun _ => .int _
  · cases h
    exact fun _ => .str _
theorem Atom.lv {val : PyData} (a : Atom val) : Lv 3 val := by
  rcases a with ⟨i, rfl⟩ | ⟨x, rfl, n⟩
  · trivial
  · exact lv_nm n
/-- the items of what a try tells -/
def dueL (du : PyData) : Option (Str × PyData) → List PyData
  | none => [.str "told", du]
  | some (c, val) => [.str "no", .str c, val]
def dueT (du : PyData) (o : Option (Str × PyData)) : PyData := .tuple (dueL du o)
theorem dueT_none (o : Option (Str × PyData)) : dueD o = dueT .none o := by
  cases o <;> rfl
theorem due_lv {xs : List Str} {d du : PyData} (h : Lv 3 du) : Lv 4 (dueT du (fDue xs d)) := by
  have lw : ∀ z : Str, z ∈ ([Str.ofString "told", Str.ofString "no", Str.ofString "InvalidFact", Str.ofString "TooMany", Str.ofString "DuplicateName", Str.ofString "UnknownFind"] : List Str) → Lv 3 (.str z) := fun z hz => lv_of 3 _ (List.all_eq_true.mp (by decide +kernel : ([Str.ofString "told", Str.ofString "no", Str.ofString "InvalidFact", Str.ofString "TooMany", Str.ofString "DuplicateName", Str.ofString "UnknownFind"] : List Str).all (fun z => lvB 3 (.str z)) = true) z hz)
  cases hf : fDue xs d with
  | none => exact ⟨by show 2 ≤ 60; decide, fun x hx => by
      rcases List.mem_cons.mp hx with e | m
      · rw [e]; exact lw _ List.mem_cons_self
      · rw [List.mem_singleton.mp m]; exact h⟩
  | some p =>
    obtain ⟨c, val⟩ := p
    obtain ⟨hc, ha⟩ := due_cls hf
    exact ⟨by show 3 ≤ 60; decide, fun x hx => by
      rcases List.mem_cons.mp hx with e | m
      · rw [e]; exact lw _ (List.mem_cons_of_mem _ List.mem_cons_self)
      · rcases List.mem_cons.mp m with e | m
        · rw [e]; exact lw _ (List.mem_cons_of_mem _ (List.mem_cons_of_mem _ hc))
        · rw [List.mem_singleton.mp m]; exact ha.lv⟩
/-- what a try tells of a def that refuses as fDue says -/
theorem try_due {K : PySem.W.Frag} {mg : Str → Option Value} {xs : List Str} {d du : PyData} {u : V} {H : Hp} {Q : VK} {tl : XK → Hp → VK → Prop} (hu : ∀ H : Hp, Da K H u du)
    (htl : ∀ (E : XK) (Q0 : VK), (fDue xs d = none → ∀ H', Same H H' → Q0 u H') → (∀ c val, fDue xs d = some (c, val) → ∀ cls dd v' H', Same H H' → IsExc K mg c [("code", .str c), (fldOf c, v')] cls dd H' → Da K H' v' val → E cls dd H') → tl E H Q0)
    (q : ∀ (p : Addr) (us : List V) H', Same H H' → H p = none → H' p = some (.tup us) → (∀ H'' : Hp, DaAll K H'' us (dueL du (fDue xs d))) → Q (.ref p) H') : TTry K mg FlA tl H Q := by
  refine htl _ _ (fun hn H' s => ⟨(by show 2 ≤ sizeLine; decide), fun r nr => ?_⟩) (fun c val hd cls dd v' H' s ie rv' => ?_)
  · refine q r _ _ (s.trans (same_new nr)) (s.free nr) upd_same fun H'' => ?_
    rw [hn]
    exact .cons (.str _) (.cons (hu H'') .nil)
  · obtain ⟨hc, ha⟩ := due_cls hd
    refine ⟨c, _, [v'], ie, ?_, by show 1 ≤ 1000; decide, fun r H'' s2 nr er => ?_⟩
    · rcases List.mem_cons.mp hc with e | m
      · subst e
        exact .inr (.inl ⟨by decide +kernel, v', rfl, rfl⟩)
      · rcases List.mem_cons.mp m with e | m
        · subst e
          exact .inr (.inr (.inr (.inr (.inl ⟨rfl, v', rfl, rfl⟩))))
        · rcases List.mem_cons.mp m with e | m
          · subst e
            exact .inr (.inr (.inl ⟨by decide +kernel, v', rfl, rfl⟩))
          · rw [List.mem_singleton.mp m]
            exact .inr (.inr (.inl ⟨by decide +kernel, v', rfl, rfl⟩))
    · refine q r _ H'' (s.trans s2) (s.free nr) er fun H3 => ?_
      rw [hd]
      exact .cons (.str _) (.cons (.str _) (.cons (ha.any rv' H3) .nil))

structure W5 (D : DS) (C PL LL b : Addr) (xs ls ys : List Str) (T : List (Addr × Str)) (H : Hp) : Prop where
  d : Drw D H
  pl : H PL = some (.lst (xs.map V.str))
  ll : H LL = some (.lst (ls.map V.str))
  bk : BookAt H C b ys
  tb : LamX.Tabs T H
section
variable {D : DS} {C PL LL b : Addr} {xs ls ys : List Str} {T : List (Addr × Str)} {H H' : Hp}
theorem BookAt.go (d : Drw D H) (h : BookAt H C b ys) (g : Go D H H') : BookAt H' C b ys := by
  obtain ⟨dx, fa, fs, e1, l1, l2, e2⟩ := h.ex
  obtain ⟨_, _, _, i, v, m, c, st, _⟩ := d
  have n1 : b ≠ D.p := fun z => by
    rw [z, st] at e1
    cases e1
  have n2 : fa ≠ D.p := fun z => by
    rw [z, st] at e2
    cases ys with
    | nil => cases e2
    | cons y r => cases e2
  exact ⟨dx, fa, fs, g.old n1 e1, l1, l2, g.old n2 e2⟩
theorem W5.go (w : W5 D C PL LL b xs ls ys T H) (p1 : PL ≠ D.p) (p2 : LL ≠ D.p) (g : Go D H H') : W5 D C PL LL b xs ls ys T H' := by
  obtain ⟨d, pl, ll, bk, tb⟩ := w
  exact ⟨g.st, g.old p1 pl, g.old p2 ll, bk.go d g, Tabs.go tb d g⟩
theorem W5.sm (w : W5 D C PL LL b xs ls ys T H) (s : Same H H') : W5 D C PL LL b xs ls ys T H' := by
  obtain ⟨d, pl, ll, bk, tb⟩ := w
  exact ⟨(Go.of d s).st, s _ _ pl, s _ _ ll, bk.sm s, Tabs.sm tb s⟩
theorem W5.ext (w : W5 D C PL LL b xs ls ys T H) (e : LamX.ExtN H H') (t : LamX.Tabs T H') : W5 D C PL LL b xs ls ys T H' := by
  obtain ⟨d, pl, ll, bk, tb⟩ := w
  obtain ⟨dx, fa, fs, e1, l1, l2, e2⟩ := bk.ex
  exact ⟨(keepD_ext e).drw d, keepD_ext e _ _ pl (plain_lst _), keepD_ext e _ _ ll (plain_lst _), ⟨dx, fa, fs, keepD_ext e _ _ e1 (plain_ins _ _ _), l1, l2, keepD_ext e _ _ e2 (plain_lst _)⟩, t⟩
end
/-- tuple(a list or a tuple) -/
def rTupO (K : PySem.W.Frag) : List V → Hp → VK → Prop := fun xs H Q => ∃ p ys, xs = [V.ref p] ∧ ((SqL K H p ys ∧ ∀ l : Addr, H l = none → Q (.ref l) (upd H l (.tup ys))) ∨ SqT K H p ys ∧ Q (.ref p) H)
theorem W5.mutX {D : DS} {C PL LL b p1 p2 TL : Addr} {xs ls ys : List Str} {T : List (Addr × Str)} {H : Hp} {o : HO} (w : W5 D C PL LL b xs ls ys T H) (nx : xs ≠ []) (hy : ∀ x, x ∈ ys ↔ x ∈ xs) (h : H TL = some (.lst [.ref p1, .ref p2])) (nl : ls ≠ []) : W5 D C PL LL b xs ls ys T (upd H TL o) := by
  have kx : ∀ c u, H c = some u → u ≠ .lst [.ref p1, .ref p2] → (upd H TL o) c = some u := fun c u e n => by
    rw [upd_ne (fun z => by rw [z, h] at e; exact n (Option.some.inj e).symm)]
    exact e
  have zstr : ∀ zs : List Str, zs ≠ [] → HO.lst (zs.map V.str) ≠ .lst [.ref p1, .ref p2] := fun zs n e => by
    cases zs with
    | nil => exact n rfl
    | cons z r => cases e
  obtain ⟨⟨ne, sc, few, i, v, m, c, st, hs⟩, pl, ll, bk, tb⟩ := w
  obtain ⟨dx, fa, fs, e1, l1, l2, e2⟩ := bk.ex
  have ny : ys ≠ [] := fun z => by
    obtain ⟨x, hx⟩ := List.exists_mem_of_ne_nil xs nx
    have := (hy x).mpr hx
    rw [z] at this
    cases this
  refine ⟨⟨ne, kx _ _ sc (fun e => ?_), few, i, v, m, c, kx _ _ st (fun e => by cases e), hs⟩, kx _ _ pl (zstr _ nx), kx _ _ ll (zstr _ nl), ⟨dx, fa, fs, kx _ _ e1 (fun e => by cases e), l1, l2, kx _ _ e2 (zstr _ ny)⟩, fun p hp => ?_⟩
  · cases hn : D.ns with
    | nil => rw [hn] at e; cases e
    | cons z r => rw [hn] at e; cases e
  · obtain ⟨ps, h1, h2, h3⟩ := tb p hp
    refine ⟨ps, kx _ _ h1 (fun e => by cases e), h2, fun pos cv hc => ?_⟩
    obtain ⟨c', e1, e2⟩ := h3 pos cv hc
    exact ⟨c', e1, kx _ _ e2 (fun e => by unfold LamX.CodeO at e; cases e)⟩
/-- a claim: a label and a fact, each a tuple of its own -/
def ClA (D : DS) (xs : List Str) (H : Hp) (v : V) : Prop := ∃ (p f : Addr) (lb : Str) (ss : List Str), v = .ref p ∧ p ≠ D.p ∧ f ≠ D.p ∧ H p = some (.tup [.str lb, .ref f]) ∧ H f = some (.tup (ss.map V.str)) ∧ isNm lb = true ∧ factOf xs ss
theorem ClA.go {D : DS} {xs : List Str} {H H' : Hp} {v : V} (h : ClA D xs H v) (g : Go D H H') : ClA D xs H' v := by
  obtain ⟨p, f, lb, ss, e, n1, n2, e1, e2, r⟩ := h
  exact ⟨p, f, lb, ss, e, n1, n2, g.old n1 e1, g.old n2 e2, r⟩
theorem ClA.mut {D : DS} {xs : List Str} {H : Hp} {v : V} {C : Addr} {vs us : List V} (h : ClA D xs H v) (hC : H C = some (.lst vs)) : ClA D xs (upd H C (.lst us)) v := by
  obtain ⟨p, f, lb, ss, e, n1, n2, e1, e2, r⟩ := h
  refine ⟨p, f, lb, ss, e, n1, n2, ?_, ?_, r⟩
  · rw [upd_ne (fun z => by rw [z, hC] at e1; cases e1)]
    exact e1
  · rw [upd_ne (fun z => by rw [z, hC] at e2; cases e2)]
    exact e2
theorem ClA.da {K : PySem.W.Frag} {D : DS} {xs : List Str} {H : Hp} {v : V} (h : ClA D xs H v) (n : ∀ x ∈ xs, isNm x = true) : ∃ e, Da K (hid D.p H) v e ∧ Lv 4 e := by
  obtain ⟨p, f, lb, ss, rfl, n1, n2, e1, e2, nl, fo⟩ := h
  exact ⟨.tuple [.str lb, .tuple (ss.map .str)], Da.newT (by rw [hid_ne n1]; exact e1) (.cons (.str _) (.cons (Da.newT (by rw [hid_ne n2]; exact e2) (DaAll.strs ss)) .nil)), lv_pair (lv_nm nl) (lv_fact fo n)⟩
theorem mk_ds {K : PySem.W.Frag} {H : Hp} : ∀ (vs : List V), (∀ v ∈ vs, ∃ e, Da K H v e ∧ Lv 4 e) → ∃ ds, DaAll K H vs ds ∧ ∀ e ∈ ds, Lv 4 e
  | [], _ => ⟨[], .nil, fun _ z => nomatch z⟩
  | v :: r, h => by
    obtain ⟨e, h1, h2⟩ := h v List.mem_cons_self
    obtain ⟨ds, a, b⟩ := mk_ds r fun u hu => h u (List.mem_cons_of_mem _ hu)
    refine ⟨e :: ds, .cons h1 a, fun x hx => ?_⟩
    rcases List.mem_cons.mp hx with z | z
    · rw [z]; exact h2
    · exact b x z
theorem keepD_mut {H H' : Hp} {q : Addr} {o : HO} (e : KeepD H H') (h : H q = none) : KeepD H (upd H' q o) := fun c u hc p => by
  rw [upd_ne (fun z => by rw [z, h] at hc; cases hc)]
  exact e c u hc p
def spLawT (K : PySem.W.Frag) (Pt : Addr) : Sp := fun vs H Q _ => ∃ (a : Addr) (ns : List Int), vs = [.ref a] ∧ SqL K H a (ns.map V.int) ∧ ns.length ≤ 63 ∧ H Pt = some (.tbl #[]) ∧ ∀ H', Q (.bl true) H'
section
variable {P : Program} {w : World} {K : PySem.W.Frag} {mg : Str → Option Value} {base : Heap} {CB : Addr}
theorem has_p_law {f c Pt c1 c2 : Addr} {fd : FuncData} (Z : Zs mg) (B : ClsF K mg CB "Book" ["_finds", "_words"]) (F : Fun K "law" "law" s_p_law f fd) (hc : fd.code = .ref c) (TB : LamX.TabB base mg c Pt) (hm1 : mg "FindError" = some (.ref c1)) (hm2 : mg "Missing" = some (.ref c2)) (h_l_start : Has P w K mg base "_law_start" s_l_start 1 ["_law_script", "_law_own"] (spStart K)) (h_l_draw : Has P w K mg base "_law_draw" s_l_draw 1 ["_law_state", "_law_many"] (spDraw)) (h_l_pick : Has P w K mg base "_law_pick" s_l_pick 2 ["_law_state", "_law_pool"] (spPick K)) (h_l_names : Has P w K mg base "_law_names" s_l_names 3 ["_law_state", "_law_many"] (spNames K)) (h_l_odd : Has P w K mg base "_law_odd" s_l_odd 3 ["_law_state"] (spOdd K)) (h_l_same : Has P w K mg base "_law_same" s_l_same 6 ["_law_got", "_law_due"] (spSm K 6)) (h_l_fact : Has P w K mg base "_law_fact" s_l_fact 3 ["_law_state", "_law_pool"] (spFact K)) (h_l_spoilt : Has P w K mg base "_law_spoilt" s_l_spoilt 4 ["_law_state", "_law_claims", "_law_pool", "_law_labels"] (spSpoilt K)) (h_l_facts_due : Has P w K mg base "_law_facts_due" s_l_facts_due 7 ["_law_pool", "_law_x"] (spFactsDue K)) (h_p_check_facts : HasX P w K mg base "check_facts" s_p_check_facts 10 ["finds", "facts"] (spCheckF K mg)) (h_p_first_fault : HasX P w K mg base "first_fault" s_p_first_fault 11 ["book", "facts", "entries"] (spFirst K mg CB)) (h_p_shows : HasX P w K mg base "shows" s_p_shows 12 ["book", "facts", "entries", "statement"] (spShows K mg CB)) (h_c_Book_init : HasI P w K mg base CB 10 ["self", "finds", "words"] (dEmpty K) (spBInit K CB)) (h_l_fields : HasQ P w K mg base "_law_fields" s_l_fields 1 ["_law_e"] (spFields K mg FlA)) (A_l_try : At K mg "_law_try" s_l_try ["_law_ask"]) : FnOk P w K mg base CX0 15 f fd ["_law_script"] (spLawT K Pt) := by
  obtain ⟨f_l_start, fd_l_start, G_l_start, m_l_start, k_l_start, b_l_start, F_l_start⟩ := h_l_start
  obtain ⟨f_l_draw, fd_l_draw, G_l_draw, m_l_draw, k_l_draw, b_l_draw, F_l_draw⟩ := h_l_draw
  obtain ⟨f_l_pick, fd_l_pick, G_l_pick, m_l_pick, k_l_pick, b_l_pick, F_l_pick⟩ := h_l_pick
  obtain ⟨f_l_names, fd_l_names, G_l_names, m_l_names, k_l_names, b_l_names, F_l_names⟩ := h_l_names
  obtain ⟨f_l_odd, fd_l_odd, G_l_odd, m_l_odd, k_l_odd, b_l_odd, F_l_odd⟩ := h_l_odd
  obtain ⟨f_l_same, fd_l_same, G_l_same, m_l_same, k_l_same, b_l_same, F_l_same⟩ := h_l_same
  obtain ⟨f_l_fact, fd_l_fact, G_l_fact, m_l_fact, k_l_fact, b_l_fact, F_l_fact⟩ := h_l_fact
  obtain ⟨f_l_spoilt, fd_l_spoilt, G_l_spoilt, m_l_spoilt, k_l_spoilt, b_l_spoilt, F_l_spoilt⟩ := h_l_spoilt
  obtain ⟨f_l_facts_due, fd_l_facts_due, G_l_facts_due, m_l_facts_due, k_l_facts_due, b_l_facts_due, F_l_facts_due⟩ := h_l_facts_due
  obtain ⟨f_p_check_facts, fd_p_check_facts, G_p_check_facts, m_p_check_facts, k_p_check_facts, b_p_check_facts, F_p_check_facts⟩ := h_p_check_facts
  obtain ⟨f_p_first_fault, fd_p_first_fault, G_p_first_fault, m_p_first_fault, k_p_first_fault, b_p_first_fault, F_p_first_fault⟩ := h_p_first_fault
  obtain ⟨f_p_shows, fd_p_shows, G_p_shows, m_p_shows, k_p_shows, b_p_shows, F_p_shows⟩ := h_p_shows
  obtain ⟨fI_c_Book_init, fd_c_Book_init, ds_c_Book_init, dv_c_Book_init, MK_c_Book_init, G_c_Book_init, b_c_Book_init, dd_c_Book_init, dq_c_Book_init⟩ := h_c_Book_init
  obtain ⟨f_l_try, fd_l_try, F_l_try, m_l_try, b_l_try⟩ := A_l_try
  refine okC F hc sc_p_law (fun vs H Q E h => ?_) (fun A outer s H vs Q E hr h => ?_)
  · obtain ⟨a, ns, rfl, _⟩ := h
    rfl
  · obtain ⟨a, ns, rfl, hS, hlen, hPt, q⟩ := h
    have kb_p_check_facts : KBinds K fd_p_check_facts ["finds", "facts"] ["facts", "finds"] g2 g2 := kb_of F_p_check_facts g2_rel (fun kV doc pm an cdv ct us ws hl => by
      match us, ws, hl with
      | [], [_, _], _ => rfl
      | [], [], e => cases e
      | [], [_], e => cases e
      | [], _ :: _ :: _ :: _, e => cases e
      | _ :: _, [], e => cases e
      | _ :: _, _ :: _, e => cases e)
    obtain ⟨tD, edv, hD⟩ := dq_c_Book_init
    subst edv
    refine ⟨_, (pss_cons (ps_set (i := 1) sc_p_law.nd rfl (Or.inr rfl) (pe_call G_l_start (hr.mono (by decide)) (by rfl) m_l_start k_l_start b_l_start .nil pass0 (pa_cons (pv 0) (pa_cons pe_int pa_nil)))) (pss_cons (ps_asg (pe_tup (pa_cons (pe_call G_l_names (hr.mono (by decide)) (by rfl) m_l_names k_l_names b_l_names .nil pass0 (pa_cons (pv 1) (pa_cons (pe_op op_add pe_int (pe_call G_l_draw (hr.mono (by decide)) (by rfl) m_l_draw k_l_draw b_l_draw .nil pass0 (pa_cons (pv 1) (pa_cons pe_int pa_nil)))) pa_nil))) (pa_cons (pe_call G_l_names (hr.mono (by decide)) (by rfl) m_l_names k_l_names b_l_names .nil pass0 (pa_cons (pv 1) (pa_cons pe_int pa_nil))) pa_nil))) (pg_tup (by rfl) (pgs_cons (pg_name (i := 2) sc_p_law.nd rfl (Or.inr rfl)) (pgs_cons (pg_name (i := 3) sc_p_law.nd rfl (Or.inl rfl)) pgs_nil)))) (pss_cons (ps_set (i := 4) sc_p_law.nd rfl (Or.inr rfl) (pe_make MK_c_Book_init G_c_Book_init (hr.mono (by decide)) (by rfl) B.m b_c_Book_init dd_c_Book_init passF (pa_cons (pv 2) pa_nil))) (pss_cons (ps_for PassesOwn.never rfl (pi_range1 (by rfl) Z.range_ (pa_cons pe_int pa_nil)) (pg_name (i := 5) sc_p_law.nd rfl (Or.inl rfl)) (pss_cons (ps_set (i := 6) sc_p_law.nd rfl (Or.inl rfl) (pe_call G_l_pick (hr.mono (by decide)) (by rfl) m_l_pick k_l_pick b_l_pick .nil pass0 (pa_cons (pv 1) (pa_cons (pe_lst (pa_cons pe_int (pa_cons pe_int (pa_cons pe_int (pa_cons pe_int (pa_cons pe_int (pa_cons pe_int (pa_cons pe_int (pa_cons pe_int (pa_cons pe_int pa_nil)))))))))) pa_nil)))) (pss_cons (ps_set (i := 7) sc_p_law.nd rfl (Or.inr rfl) (pe_lc (own := [("_law_label", 8)]) (g := gName 8) (by rfl) sc_p_law.nd (pi_list (pe_slice sl_list (pv 3) po_none (po_some (pv 6)))) (blkOk_by (own := [("_law_label", 8)]) (N := ["_law_script", "_law_state", "_law_pool", "_law_labels", "_law_book_z", "_law_turn", "_law_many", "_law_claims", "_law_label", "_law_again", "_law_given", "_law_due", "_law_told", "_law_here", "_law_fault", "_law_shown", "_law_late", "_law_x"]) (sc := defScope s_p_law) (by decide +kernel)) (fun _ _ _ _ _ => pg_name (i := 8) sc_p_law.nd rfl (Or.inl rfl)) (fun _ _ _ _ _ => pts_nil) (fun _ _ _ _ _ => (pe_tup (pa_cons (pv 8) (pa_cons (pe_call G_l_fact (hr.mono (by decide)) (by rfl) m_l_fact k_l_fact b_l_fact .nil pass0 (pa_cons (pv 1) (pa_cons (pv 2) pa_nil))) pa_nil)))))) (pss_cons (ps_for PassesOwn.never rfl (pi_range1 (by rfl) Z.range_ (pa_cons (pe_call G_l_draw (hr.mono (by decide)) (by rfl) m_l_draw k_l_draw b_l_draw .nil pass0 (pa_cons (pv 1) (pa_cons pe_int pa_nil))) pa_nil)) (pg_name (i := 9) sc_p_law.nd rfl (Or.inl rfl)) (pss_one (ps_set (i := 7) sc_p_law.nd rfl (Or.inr rfl) (pe_call G_l_spoilt (hr.mono (by decide)) (by rfl) m_l_spoilt k_l_spoilt b_l_spoilt .nil pass0 (pa_cons (pv 1) (pa_cons (pv 7) (pa_cons (pv 2) (pa_cons (pv 3) pa_nil)))))))) (pss_cons (ps_asg (pe_tup (pa_cons (pe_callTy call_list_of (by rfl) Z.list_ (by decide +kernel) (pa_cons (pv 7) pa_nil)) (pa_cons (pe_call G_l_facts_due (hr.mono (by decide)) (by rfl) m_l_facts_due k_l_facts_due b_l_facts_due .nil pass0 (pa_cons (pv 2) (pa_cons (pv 7) pa_nil))) pa_nil))) (pg_tup (by rfl) (pgs_cons (pg_name (i := 10) sc_p_law.nd rfl (Or.inr rfl)) (pgs_cons (pg_name (i := 11) sc_p_law.nd rfl (Or.inl rfl)) pgs_nil)))) (pss_cons (ps_set (i := 12) sc_p_law.nd rfl (Or.inl rfl) (pe_lst (pa_cons (pe_try F_l_try m_l_try b_l_try (by rfl) sc_l_try rfl (.inl rfl) (fun _ => gives_l_try (hr.mono (by decide)) hm1 hm2 h_l_fields) TB rfl hr (show LamX.LamS (defScope s_p_law) _ from LamX.lamS_by (by decide +kernel)) rfl (fun _ _ _ _ _ => rfl) (fun A outer s H E f c' hr' => by exact (pe_call G_p_check_facts (hr'.mono (by decide)) (by rfl) m_p_check_facts k_p_check_facts b_p_check_facts .nil (passes_call (takes_of rfl rfl rfl rfl) fun _ _ _ _ h => h) (pa_cons (pv 2) (pa_cons (pv 10) pa_nil))))) (pa_cons (pe_try F_l_try m_l_try b_l_try (by rfl) sc_l_try rfl (.inl rfl) (fun _ => gives_l_try (hr.mono (by decide)) hm1 hm2 h_l_fields) TB rfl hr (show LamX.LamS (defScope s_p_law) _ from LamX.lamS_by (by decide +kernel)) rfl (fun _ _ _ _ _ => rfl) (fun A outer s H E f c' hr' => by exact (pe_callK0 G_p_check_facts (hr'.mono (by decide)) (by rfl) m_p_check_facts k_p_check_facts kb_p_check_facts (passes_call (takes_of rfl rfl rfl rfl) fun _ _ _ _ h => h) (pk_cons (pe_callTy (show CallR _ (.type "tuple") (rTupO K) from call_tuple_of) (by rfl) Z.tuple_ (by decide +kernel) (pa_cons (pv 7) pa_nil)) (pk_cons (show PE _ _ (tRevL K (tVar 2)) from pe_revL (pv 2)) pk_nil))))) pa_nil)))) (pss_cons (ps_set (i := 13) sc_p_law.nd rfl (Or.inr rfl) (show PE _ _ (tRevL K (tVar 2)) from pe_revL (pv 2))) (pss_cons (ps_expr (pe_bm PySem.F.plainAttrs_list PySem.F.slot_list_append PySem.F.type_list_append mt_append (pv 12) (pa_cons (pe_try F_l_try m_l_try b_l_try (by rfl) sc_l_try rfl (.inl rfl) (fun _ => gives_l_try (hr.mono (by decide)) hm1 hm2 h_l_fields) TB rfl hr (show LamX.LamS (defScope s_p_law) _ from LamX.lamS_by (by decide +kernel)) rfl (fun _ _ _ _ _ => rfl) (fun A outer s H E f c' hr' => by exact (pe_call G_p_check_facts (hr'.mono (by decide)) (by rfl) m_p_check_facts k_p_check_facts b_p_check_facts .nil (passes_call (takes_of rfl rfl rfl rfl) fun _ _ _ _ h => h) (pa_cons (pv 13) (pa_cons (pv 10) pa_nil))))) pa_nil))) (pss_cons (ps_if (PW.pt (pw_or (pt_not (pt_val (pe_call G_l_same (hr.mono (by decide)) (by rfl) m_l_same k_l_same b_l_same .nil pass0 (pa_cons (pv 12) (pa_cons (pe_lst (pa_cons (pv 11) (pa_cons (pv 11) (pa_cons (pv 11) pa_nil)))) pa_nil))))) (pw_or (pt_not (pt_val (pe_call G_l_same (hr.mono (by decide)) (by rfl) m_l_same k_l_same b_l_same .nil pass0 (pa_cons (pv 10) (pa_cons (pv 7) pa_nil))))) (pw_or1 (pt_cmpR (op_neD hr.units) (pv 13) (show PE _ _ (tRevL K (tVar 2)) from pe_revL (pv 2)) (nomark _)))))) (pss_one (ps_ret pe_bl)) pss_nil) (pss_cons (ps_set (i := 14) sc_p_law.nd rfl (Or.inl rfl) (pe_try F_l_try m_l_try b_l_try (by rfl) sc_l_try rfl (.inl rfl) (fun _ => gives_l_try (hr.mono (by decide)) hm1 hm2 h_l_fields) TB rfl hr (show LamX.LamS (defScope s_p_law) _ from LamX.lamS_by (by decide +kernel)) rfl (fun _ _ _ _ _ => rfl) (fun A outer s H E f c' hr' => by exact (pe_call G_p_first_fault (hr'.mono (by decide)) (by rfl) m_p_first_fault k_p_first_fault b_p_first_fault .nil (passes_call (takes_of rfl rfl rfl rfl) fun _ _ _ _ h => h) (pa_cons (pv 4) (pa_cons (pv 10) (pa_cons (pe_lst pa_nil) pa_nil))))))) (pss_cons (ps_set (i := 15) sc_p_law.nd rfl (Or.inl rfl) (pe_try F_l_try m_l_try b_l_try (by rfl) sc_l_try rfl (.inl rfl) (fun _ => gives_l_try (hr.mono (by decide)) hm1 hm2 h_l_fields) TB rfl hr (show LamX.LamS (defScope s_p_law) _ from LamX.lamS_by (by decide +kernel)) rfl (fun _ _ _ _ _ => rfl) (fun A outer s H E f c' hr' => by exact (pe_call G_p_shows (hr'.mono (by decide)) (by rfl) m_p_shows k_p_shows b_p_shows .nil (passes_call (takes_of rfl rfl rfl rfl) fun _ _ _ _ h => h) (pa_cons (pv 4) (pa_cons (pv 10) (pa_cons (pe_lst pa_nil) (pa_cons (pe_tup (pa_cons pe_str pa_nil)) pa_nil)))))))) (C8.pss_cut (ps_set (i := 16) sc_p_law.nd rfl (Or.inl rfl) (pe_ifExp (pt_cmpR op_eq (pe_ix ix_tup (pv 11) pe_int (fun _ _ => rfl)) pe_str (nomark _)) (pe_tup (pa_cons pe_str (pa_cons pe_bl pa_nil))) (pv 11))) (pss_one (ps_if (PW.pt (pw_or (pt_not (pt_val (pe_call G_l_same (hr.mono (by decide)) (by rfl) m_l_same k_l_same b_l_same .nil pass0 (pa_cons (pe_lst (pa_cons (pv 14) (pa_cons (pv 15) pa_nil))) (pa_cons (pe_lst (pa_cons (pv 11) (pa_cons (pv 16) pa_nil))) pa_nil))))) (pw_or1 (pt_not (pt_val (pe_call G_l_same (hr.mono (by decide)) (by rfl) m_l_same k_l_same b_l_same .nil pass0 (pa_cons (pv 10) (pa_cons (pv 7) pa_nil)))))))) (pss_one (ps_ret pe_bl)) pss_nil)))))))))))))) (pss_cons (ps_set (i := 17) sc_p_law.nd rfl (Or.inr rfl) (pe_call G_l_odd (hr.mono (by decide)) (by rfl) m_l_odd k_l_odd b_l_odd .nil pass0 (pa_cons (pv 1) pa_nil))) (pss_cons (ps_set (i := 11) sc_p_law.nd rfl (Or.inl rfl) (pe_call G_l_facts_due (hr.mono (by decide)) (by rfl) m_l_facts_due k_l_facts_due b_l_facts_due .nil pass0 (pa_cons (pv 2) (pa_cons (pv 17) pa_nil)))) (C8.pss_cut (ps_set (i := 16) sc_p_law.nd rfl (Or.inl rfl) (pe_ifExp (pt_cmpR op_eq (pe_ix ix_tup (pv 11) pe_int (fun _ _ => rfl)) pe_str (nomark _)) (pe_tup (pa_cons pe_str (pa_cons pe_bl pa_nil))) (pv 11))) (pss_cons (ps_set (i := 12) sc_p_law.nd rfl (Or.inl rfl) (pe_lst (pa_cons (pe_try F_l_try m_l_try b_l_try (by rfl) sc_l_try rfl (.inl rfl) (fun _ => gives_l_try (hr.mono (by decide)) hm1 hm2 h_l_fields) TB rfl hr (show LamX.LamS (defScope s_p_law) _ from LamX.lamS_by (by decide +kernel)) rfl (fun _ _ _ _ _ => rfl) (fun A outer s H E f c' hr' => by exact (pe_call G_p_check_facts (hr'.mono (by decide)) (by rfl) m_p_check_facts k_p_check_facts b_p_check_facts .nil (passes_call (takes_of rfl rfl rfl rfl) fun _ _ _ _ h => h) (pa_cons (pv 2) (pa_cons (pv 17) pa_nil))))) (pa_cons (pe_try F_l_try m_l_try b_l_try (by rfl) sc_l_try rfl (.inl rfl) (fun _ => gives_l_try (hr.mono (by decide)) hm1 hm2 h_l_fields) TB rfl hr (show LamX.LamS (defScope s_p_law) _ from LamX.lamS_by (by decide +kernel)) rfl (fun _ _ _ _ _ => rfl) (fun A outer s H E f c' hr' => by exact (pe_call G_p_first_fault (hr'.mono (by decide)) (by rfl) m_p_first_fault k_p_first_fault b_p_first_fault .nil (passes_call (takes_of rfl rfl rfl rfl) fun _ _ _ _ h => h) (pa_cons (pv 4) (pa_cons (pv 17) (pa_cons pe_non pa_nil)))))) (pa_cons (pe_try F_l_try m_l_try b_l_try (by rfl) sc_l_try rfl (.inl rfl) (fun _ => gives_l_try (hr.mono (by decide)) hm1 hm2 h_l_fields) TB rfl hr (show LamX.LamS (defScope s_p_law) _ from LamX.lamS_by (by decide +kernel)) rfl (fun _ _ _ _ _ => rfl) (fun A outer s H E f c' hr' => by exact (pe_call G_p_shows (hr'.mono (by decide)) (by rfl) m_p_shows k_p_shows b_p_shows .nil (passes_call (takes_of rfl rfl rfl rfl) fun _ _ _ _ h => h) (pa_cons (pv 4) (pa_cons (pv 17) (pa_cons pe_non (pa_cons pe_non pa_nil))))))) pa_nil))))) (pss_one (ps_ret (pe_call G_l_same (hr.mono (by decide)) (by rfl) m_l_same k_l_same b_l_same .nil pass0 (pa_cons (pv 12) (pa_cons (pe_lst (pa_cons (pv 11) (pa_cons (pe_ifExp (pt_cmpR op_eq (pe_ix ix_tup (pv 11) pe_int (fun _ _ => rfl)) pe_str (nomark _)) (pe_tup (pa_cons pe_str (pa_cons (pe_un un_neg pe_int) pa_nil))) (pv 11)) (pa_cons (pv 16) pa_nil)))) pa_nil))))))))))))), ?_⟩
    refine ⟨_, rfl, a, ns, 120330559, rfl, hS, hlen, by decide, by decide, fun H1 D s1 np nl d => ?_⟩
    refine ⟨_, rfl, _, rfl, D, 12, rfl, d, by decide, by decide, fun r H6 r0 r1 g6 => ⟨_, _, rfl, rfl, D, _, rfl, g6.st, by omega, by omega, fun PL xs H7 nms eln nPL ePL g7 => ?_⟩⟩
    have pPL := g6.st.ne_new nPL
    refine ⟨_, rfl, D, 34, rfl, g7.st, by decide, by decide, fun LL ls H8 nml ell nLL eLL g8 => ⟨by show 2 ≤ sizeLine; decide, fun t nt => ⟨t, _, rfl, .inl (.inl upd_same), rfl, _, _, rfl, _, _, rfl, rfl, ?_⟩⟩⟩
    have pLL := g7.st.ne_new nLL
    have ePL8 := g8.old pPL ePL
    have gg := (g6.trans g7).trans g8
    have g9 := gg.trans (Go.of gg.st (same_new (o := .tup [.ref PL, .ref LL]) nt))
    have ePL9 := kp (u := .tup [.ref PL, .ref LL]) ePL8 nt
    have eLL9 := kp (u := .tup [.ref PL, .ref LL]) eLL nt
    generalize upd H8 t (.tup [.ref PL, .ref LL]) = H9 at g9 ePL9 eLL9 ⊢
    have l0 : 0 < xs.length := by omega
    have l12 : xs.length ≤ 12 := by omega
    have lls : ls.length = 34 := by omega
    have nex : xs ≠ [] := List.length_pos_iff.mp l0
    -- the book
    refine ⟨_, rfl, fun b dx nb ndx ne => ?_⟩
    have sb : Same H9 (upd (upd H9 dx (.own b)) b (.ins CB dx [])) := (same_new ndx).trans (same_new (by rw [upd_ne ne.symm]; exact nb))
    refine ⟨b, dx, PL, tD, xs, rfl, .inl (.inl (sb _ _ ePL9)), .base (.lst (sb _ _ ePL9)), nms, nex, l12, (hD _).1, (hD _).2, upd_same, fun ys H10 pmy soy bk keep => ⟨rfl, ?_⟩⟩
    have s10 : Same H9 H10 := fun c o e => keep c o (fun z => by rw [z, nb] at e; cases e) (sb c o e)
    have hys : ∀ x, x ∈ ys ↔ x ∈ xs := fun x => pmy.mem_iff
    have gA := g9.trans (Go.of g9.st s10)
    have tb0 : LamX.Tabs [(Pt, (envOfC "law" (defScope s_p_law) s.heap.objs.size f (.ref c)).qual ++ "<lambda>")] H1 := fun p hp => by
      rw [List.mem_singleton.mp hp]
      exact LamX.TabS.nil (s1 _ _ hPt)
    have w : W5 D CB PL LL b xs ls ys [(Pt, (envOfC "law" (defScope s_p_law) s.heap.objs.size f (.ref c)).qual ++ "<lambda>")] H10 := ⟨gA.st, s10 _ _ ePL9, s10 _ _ eLL9, bk, Tabs.go tb0 d gA⟩
    generalize hT : [(Pt, (envOfC "law" (defScope s_p_law) s.heap.objs.size f (.ref c)).qual ++ "<lambda>")] = T at w
    have lxm : (xs.map V.str).length = xs.length := List.length_map _
    have llm : (ls.map V.str).length = ls.length := List.length_map _
    clear gA tb0 s10 keep bk sb nb ndx ne g9 ePL9 eLL9 gg ePL8 g8 g7 g6 nt eLL ePL nLL nPL s1 np nl
    -- turns
    refine ⟨6, rfl, by decide, by decide, for_range (lo := 0) (n := 6) (fun i σ H9 => ∃ y5 y6 y7 y8 y9 y10 y11 y12 y13 y14 y15 y16 y17 : Option V, σ = [some (.ref a), some (.ref D.p), some (.ref PL), some (.ref LL), some (.ref b), y5, y6, y7, y8, y9, y10, y11, y12, y13, y14, y15, y16, y17] ∧ W5 D CB PL LL b xs ls ys T H9) ⟨_, _, _, _, _, _, _, _, _, _, _, _, _, rfl, w⟩ ?_ ?_⟩
    · clear w
      rintro i σ H11 hi ⟨y5, y6, y7, y8, y9, y10, y11, y12, y13, y14, y15, y16, y17, rfl, w⟩
      refine ⟨_, rfl, by show 9 ≤ sizeLine; decide, fun q1 n1 => ?_⟩
      have g1 := Go.of w.d (same_new (o := .lst [.int 0, .int 1, .int 2, .int 3, .int 5, .int 8, .int 29, .int 30, .int 31]) n1)
      refine ⟨D, q1, _, rfl, g1.st, sqh (w.d.ne_new n1) upd_same, by show 0 < 9; decide, by show 9 ≤ 1000; decide, fun i3 w3 H12 hw3 g2 => ?_⟩
      obtain ⟨mn, rfl, hm0, hm1⟩ : ∃ n : Int, w3 = .int n ∧ 0 ≤ n ∧ n ≤ 31 := by
        have hm := List.mem_of_getElem? hw3
        simp only [List.mem_cons, List.not_mem_nil, or_false] at hm
        rcases hm with e | e | e | e | e | e | e | e | e <;> exact ⟨_, e, by decide, by decide⟩
      have w1 := w.go pPL pLL (g1.trans g2)
      clear g1 g2 hw3 n1 w
      -- claims
      refine ⟨_, rfl, _, rfl, mn, rfl, LL, _, rfl, .inl (.inl w1.ll), fun S nS => ?_⟩
      rw [cut_to _ hm0, ← List.map_take]
      have s1 := same_new (o := .lst ((ls.take mn.toNat).map V.str)) nS
      have eS : (upd H12 S (.lst ((ls.take mn.toNat).map V.str))) S = some (.lst ((ls.take mn.toNat).map V.str)) := upd_same
      have pS := w1.d.ne_new nS
      have w2 := w1.sm s1
      generalize upd H12 S (.lst ((ls.take mn.toNat).map V.str)) = H13 at s1 eS w2 ⊢
      have lcl : (ls.take mn.toNat).length ≤ 31 := by rw [List.length_take]; omega
      have nmcl : ∀ x ∈ ls.take mn.toNat, isNm x = true := fun x hx => nml.2 x (List.mem_of_mem_take hx)
      generalize ls.take mn.toNat = cl at eS lcl nmcl
      refine ⟨S, rfl, ⟨_, .inl (.inl eS)⟩, fun C nC => ?_⟩
      have pC := w2.d.ne_new nC
      refine lc_list (K := K) (a := S) (xs := cl.map V.str) (fun i H' => Go D H13 H' ∧ ∃ vs : List V, H' C = some (.lst vs) ∧ vs.length = i ∧ ∀ v ∈ vs, ClA D xs H' v) ⟨(Go.refl w2.d).new nC, [], upd_same, rfl, fun _ z => nomatch z⟩ (fun i H' _ z => .inl (.inl (z.1.old pS eS))) ?_ ?_
      · rintro i y H' hi ⟨gi, vs, eC, lv, hv⟩
        obtain ⟨lb, hlb, rfl⟩ := getmap hi
        have hil := lt_of_get hlb
        have w3 := w2.go pPL pLL gi
        refine ⟨rfl, _, rfl, _, rfl, _, rfl, D, PL, xs, rfl, gi.st, sqh pPL w3.pl, l0, by omega, fun FA ss H2 fo nFA eFA g2 => ⟨by show 2 ≤ sizeLine; decide, fun U nU => ?_⟩⟩
        have g3 := Go.of g2.st (same_new (o := .tup [.str lb, .ref FA]) nU)
        have pFA := gi.st.ne_new nFA
        have pU := g2.st.ne_new nU
        have eC3 := g3.old pC (g2.old pC eC)
        have hv3 : ∀ v ∈ vs, ClA D xs (upd H2 U (.tup [.str lb, .ref FA])) v := fun v hm => ((hv v hm).go g2).go g3
        have hn : ClA D xs (upd H2 U (.tup [.str lb, .ref FA])) (.ref U) := ⟨U, FA, lb, ss, rfl, pU, pFA, upd_same, g3.old pFA eFA, nmcl lb (List.mem_of_getElem? hlb), fo⟩
        refine ⟨_, eC3, slineL (by omega), ((gi.trans g2).trans g3).mut w2.d nC, vs ++ [.ref U], upd_same, by rw [List.length_append, lv]; rfl, fun v hm => ?_⟩
        rcases List.mem_append.mp hm with h | h
        · exact (hv3 v h).mut eC3
        · rw [List.mem_singleton.mp h]
          exact hn.mut eC3
      rintro H14 ⟨g14, vs0, eC, lvs, hvs⟩
      rw [List.length_map] at lvs
      have w3 := w2.go pPL pLL g14
      obtain ⟨ds0, da0, lvd0⟩ := mk_ds (K := K) (H := hid D.p H14) vs0 (fun v hv => (hvs v hv).da nms.2)
      have lds0 := da0.len
      clear hvs g14 w2 eS pS w1 s1
      refine ⟨_, rfl, D, 4, rfl, w3.d, by decide, by decide, fun r H15 r0 r1 g15 => ⟨_, rfl, by omega, by omega, ?_⟩⟩
      refine for_range (lo := 0) (n := r.toNat) (fun i σ H' => ∃ (R : Addr) (ws : List V) (ds : List PyData) (y5 y8 y9 y10 y11 y12 y13 y14 y15 y16 y17 : Option V), σ = [some (.ref a), some (.ref D.p), some (.ref PL), some (.ref LL), some (.ref b), y5, some (.int mn), some (.ref R), y8, y9, y10, y11, y12, y13, y14, y15, y16, y17] ∧ W5 D CB PL LL b xs ls ys T H' ∧ Bn2 K D H' H' R ws ds (31 + i))
        ⟨C, vs0, ds0, _, _, _, _, _, _, _, _, _, _, _, rfl, w3.go pPL pLL g15, ⟨Go.refl g15.st, pC, g15.old pC eC, da0.to g15.sm, lvd0, by omega⟩⟩ ?_ ?_
      · rintro i σ H' hi ⟨R, ws, ds, y5, y8, y9, y10, y11, y12, y13, y14, y15, y16, y17, rfl, w, bn⟩
        refine ⟨_, rfl, _, rfl, _, rfl, _, rfl, D, R, PL, LL, ws, ds, xs, ls, 31 + i, rfl, bn, by omega, w.pl, pPL, nms, l0, l12, w.ll, pLL, nml, by omega, by omega, fun R2 us es H2 bn2 => ?_⟩
        exact ⟨R2, us, es, _, _, _, _, _, _, _, _, _, _, _, rfl, w.go pPL pLL bn2.g, ⟨Go.refl bn2.g.st, bn2.rp, bn2.er, bn2.da, bn2.lv, by have := bn2.len; omega⟩⟩
      rintro σ H16 ⟨R, ws, ds, y5, y8, y9, y10, y11, y12, y13, y14, y15, y16, y17, rfl, w, bn⟩
      have lds : ds.length ≤ 34 := by have := bn.len; omega
      have lvi : ∀ es, itemsF (.list ds) = some es → ∀ e ∈ es, Lv 6 e := fun es he e hm => by
        cases he
        exact (bn.lv e hm).up.up
      have eR := bn.er
      have da := bn.da.to hid_same
      have lvds := bn.lv
      clear bn w3 da0 lvd0 lds0 lvs eC g15
      -- given, due
      refine ⟨_, rfl, R, _, rfl, .inl (.inl (.inl eR)), fun G nG => ?_⟩
      have s1 := same_new (o := .lst ws) nG
      have eG : (upd H16 G (.lst ws)) G = some (.lst ws) := upd_same
      have eR1 := s1 _ _ eR
      have da1 := da.to s1
      have w1 := w.sm s1
      generalize upd H16 G (.lst ws) = H17 at s1 eG eR1 da1 w1 ⊢
      refine ⟨_, rfl, _, rfl, PL, xs, .ref R, .list ds, rfl, .inl (.inl w1.pl), Da.newL eR1 da1, lvi, fun rd H18 s2 rdd => ⟨by show 2 ≤ sizeLine; decide, fun t nt => ⟨t, _, rfl, .inl (.inl upd_same), rfl, _, _, rfl, _, _, rfl, rfl, ?_⟩⟩⟩
      have s3 := s2.trans (same_new (o := .tup [.ref G, rd]) nt)
      have rdd := rdd.to (same_new (o := .tup [.ref G, rd]) nt)
      rw [dueT_none] at rdd
      have w2 := w1.sm s3
      have rG : Da K (upd H18 t (.tup [.ref G, rd])) (.ref G) (.list ds) := Da.newL (s3 _ _ eG) (da1.to s3)
      have rR : Da K (upd H18 t (.tup [.ref G, rd])) (.ref R) (.list ds) := Da.newL (s3 _ _ eR1) (da1.to s3)
      generalize upd H18 t (.tup [.ref G, rd]) = HB at s3 rdd w2 rG rR ⊢
      have lvl : LvN 6 (.list ds) := ⟨by omega, fun e he => lvds e he⟩
      clear s1 s2 s3 eG eR1 eR da da1 w1 w nG nt
      subst hT
      -- three checks
      have lvdu : ∀ du, Lv 3 du → Lv 4 (dueT du (fDue xs (.list ds))) := fun du h => due_lv h
      refine ⟨w2.tb, fun Ha ea ta => ?_⟩
      have wa := w2.ext ea ta
      have ka := keepD_ext ea
      refine try_due (u := .non) (du := .none) (xs := xs) (d := .list ds) (fun _ => .non) (fun E Q0 h1 h2 => ⟨_, rfl, _, rfl, PL, xs, .ref G, .list ds, rfl, .inl (.inl wa.pl), rG.kd ka, lvi, h1, h2⟩) fun p1 us1 Hb sb np1 ep1 dp1 => ?_
      have wb := wa.sm sb
      have kb := ka.trans (KeepD.of sb)
      refine ⟨wb.tb, fun Hc ec tc => ?_⟩
      have wc := wb.ext ec tc
      have kc := kb.trans (keepD_ext ec)
      refine try_due (u := .non) (du := .none) (xs := xs) (d := .list ds) (fun _ => .non) (fun E Q0 h1 h2 => ?_) fun p2 us2 Hd sd np2 ep2 dp2 => ?_
      · obtain ⟨us, sq, al⟩ := (rR.kd kc).inL
        refine ⟨_, rfl, R, us, rfl, .inl ⟨sq, fun l nl => ?_⟩⟩
        have s1 := same_new (o := .tup us) nl
        refine ⟨_, rfl, PL, _, rfl, .inl (.inl (s1 _ _ wc.pl)), fun l2 nl2 => ?_⟩
        have s2 := s1.trans (same_new (o := .lst (xs.map V.str).reverse) nl2)
        have e2 : (upd (upd Hc l (.tup us)) l2 (.lst (xs.map V.str).reverse)) l2 = some (.lst (xs.reverse.map V.str)) := by rw [upd_same, List.map_reverse]
        have dd : Da K (upd (upd Hc l (.tup us)) l2 (.lst (xs.map V.str).reverse)) (.ref l) (.tuple ds) := Da.newT (kp upd_same nl2) (al.to s2)
        have ef : fDue xs.reverse (.tuple ds) = fDue xs (.list ds) := (due_perm (fun x => List.mem_reverse)).trans rfl
        refine ⟨l2, xs.reverse, .ref l, .tuple ds, rfl, .inl (.inl e2), dd, fun es he e hm => lvi es he e hm, fun hn H' s => h1 (by rw [← ef]; exact hn) H' (s2.trans s), fun c val hd cls dd' v' H' s ie rv' => h2 c val (by rw [← ef]; exact hd) cls dd' v' H' (s2.trans s) ie rv'⟩
      have wd := wc.sm sd
      have kd := kc.trans (KeepD.of sd)
      have ep1d : Hd p1 = some (.tup us1) := sd _ _ (keepD_ext ec _ _ ep1 (plain_tup _))
      refine ⟨by show 2 ≤ sizeLine; decide, fun TL nTL => ?_⟩
      have se := same_new (o := .lst [.ref p1, .ref p2]) nTL
      have eTL : (upd Hd TL (.lst [.ref p1, .ref p2])) TL = some (.lst [.ref p1, .ref p2]) := upd_same
      have we := wd.sm se
      have ke : KeepD Hd (upd Hd TL (.lst [.ref p1, .ref p2])) := KeepD.of se
      generalize upd Hd TL (.lst [.ref p1, .ref p2]) = He at se eTL we ke ⊢
      -- the names backwards
      refine ⟨_, rfl, PL, _, rfl, .inl (.inl we.pl), fun HR nHR => ?_⟩
      have sf := same_new (o := .lst (xs.map V.str).reverse) nHR
      have eHR : (upd He HR (.lst (xs.map V.str).reverse)) HR = some (.lst (xs.reverse.map V.str)) := by rw [upd_same, List.map_reverse]
      have wf := we.sm sf
      have kf := ke.trans (KeepD.of sf)
      have eTLf := sf _ _ eTL
      have nHRT : HR ≠ TL := fun z => by rw [z, eTL] at nHR; cases nHR
      generalize upd He HR (.lst (xs.map V.str).reverse) = Hf at sf eHR wf kf eTLf ⊢
      refine ⟨_, rfl, .inl ⟨rfl, _, .inl (.inl eTLf)⟩, wf.tb, fun Hg eg tg => ?_⟩
      have wg := wf.ext eg tg
      have kg := kf.trans (keepD_ext eg)
      have eHRg := keepD_ext eg _ _ eHR (plain_lst _)
      have eTLg := keepD_ext eg _ _ eTLf (plain_lst _)
      refine try_due (u := .non) (du := .none) (xs := xs) (d := .list ds) (fun _ => .non) (fun E Q0 h1 h2 => ?_) fun p3 us3 Hh sh np3 ep3 dp3 => ?_
      · have ef : fDue xs.reverse (.list ds) = fDue xs (.list ds) := due_perm (fun x => List.mem_reverse)
        exact ⟨_, rfl, _, rfl, HR, xs.reverse, .ref G, .list ds, rfl, .inl (.inl eHRg), rG.kd (kd.trans kg), lvi, fun hn H' s => h1 (by rw [← ef]; exact hn) H' s, fun c val hd cls dd' v' H' s ie rv' => h2 c val (by rw [← ef]; exact hd) cls dd' v' H' s ie rv'⟩
      have wh := wg.sm sh
      have kh := kg.trans (KeepD.of sh)
      have eTLh := sh _ _ eTLg
      have eHRh := sh _ _ eHRg
      have ep1h : Hh p1 = some (.tup us1) := kh _ _ ep1d (plain_tup _)
      have ep2h : Hh p2 = some (.tup us2) := kh _ _ ep2 (plain_tup _)
      have np3T : p3 ≠ TL := fun z => by rw [z, eTLg] at np3; cases np3
      have np1T : p1 ≠ TL := fun z => by rw [z, eTLh] at ep1h; cases ep1h
      have np2T : p2 ≠ TL := fun z => by rw [z, eTLh] at ep2h; cases ep2h
      refine ⟨TL, _, _, rfl, rfl, eTLh, by show 2 < sizeLine; decide, ?_⟩
      have wi := wh.mutX (o := .lst ([.ref p1, .ref p2] ++ [.ref p3])) nex hys eTLh (fun z => by rw [z] at lls; cases lls)
      have ki : KeepD Hd (upd Hh TL (.lst ([.ref p1, .ref p2] ++ [.ref p3]))) := keepD_mut kh nTL
      have eTLi : (upd Hh TL (.lst ([.ref p1, .ref p2] ++ [.ref p3]))) TL = some (.lst [.ref p1, .ref p2, .ref p3]) := upd_same
      have e1i : (upd Hh TL (.lst ([.ref p1, .ref p2] ++ [.ref p3]))) p1 = some (.tup us1) := by rw [upd_ne np1T]; exact ep1h
      have e2i : (upd Hh TL (.lst ([.ref p1, .ref p2] ++ [.ref p3]))) p2 = some (.tup us2) := by rw [upd_ne np2T]; exact ep2h
      have e3i : (upd Hh TL (.lst ([.ref p1, .ref p2] ++ [.ref p3]))) p3 = some (.tup us3) := by rw [upd_ne np3T]; exact ep3
      have eHRi : (upd Hh TL (.lst ([.ref p1, .ref p2] ++ [.ref p3]))) HR = some (.lst (xs.reverse.map V.str)) := by rw [upd_ne nHRT]; exact eHRh
      generalize upd Hh TL (.lst ([.ref p1, .ref p2] ++ [.ref p3])) = Hi at wi ki eTLi e1i e2i e3i eHRi ⊢
      have kB := kd.trans ki
      clear wh kh eTLh eHRh ep1h ep2h wg kg eHRg eTLg wf kf eTLf eHR sf we ke eTL se wd ep1d wc kc wb kb wa ka ep2 ep3 np3 np2 ep1 np1 sd sb sh
      -- compared
      refine ⟨_, rfl, _, rfl, _, rfl, _, rfl, by show 3 ≤ sizeLine; decide, fun M nM => ?_⟩
      have sj := same_new (o := .lst [rd, rd, rd]) nM
      have rdi := (rdd.kd kB).to sj
      have L3 : LvN 6 (.list [dueT .none (fDue xs (.list ds)), dueT .none (fDue xs (.list ds)), dueT .none (fDue xs (.list ds))]) := ⟨by show 3 ≤ 60; decide, fun e he => by
        simp only [List.mem_cons, List.not_mem_nil, or_false] at he
        rcases he with e | e | e <;> rw [e] <;> exact lvdu .none trivial⟩
      refine ⟨.ref TL, .ref M, _, rfl, Da.newL (sj _ _ eTLi) (.cons (Da.newT (sj _ _ e1i) (dp1 _)) (.cons (Da.newT (sj _ _ e2i) (dp2 _)) (.cons (Da.newT (sj _ _ e3i) (dp3 _)) .nil))), Da.newL upd_same (.cons rdi (.cons rdi (.cons rdi .nil))), L3, fun Hk sk => ⟨_, rfl, iteF ?_⟩⟩
      have sik := sj.trans sk
      refine ⟨_, rfl, _, rfl, .ref G, .ref R, .list ds, rfl, (rG.kd kB).to sik, (rR.kd kB).to sik, lvl, fun Hl sl => ⟨_, rfl, iteF ?_⟩⟩
      have sil := sik.trans sl
      have wl := wi.sm sil
      refine ⟨_, rfl, _, rfl, PL, _, rfl, .inl (.inl wl.pl), fun RR nRR => ?_⟩
      have sm := same_new (o := .lst (xs.map V.str).reverse) nRR
      have eRR : (upd Hl RR (.lst (xs.map V.str).reverse)) RR = some (.lst (xs.reverse.map V.str)) := by rw [upd_same, List.map_reverse]
      have lvr : Lv 4 (.list (xs.reverse.map .str)) := lv_lotL (fun x hx => nms.2 x (List.mem_reverse.mp hx)) (by rw [List.length_reverse]; omega)
      refine ⟨.list (xs.reverse.map .str), .list (xs.reverse.map .str), .lst (.inl (.inl (sm _ _ (sil _ _ eHRi)))) (DaAll.dp (K := K) _ _ (DaAll.strs _)), .lst (.inl (.inl eRR)) (DaAll.dp (K := K) _ _ (DaAll.strs _)), lvr.shaped (by decide), lvr.shaped (by decide), _, rfl, ?_⟩
      rw [show PyData.eqv (.list (xs.reverse.map .str)) (.list (xs.reverse.map .str)) = true by simp only [PyData.eqv]; rw [eqv_strs, decide_eq_true rfl]]
      refine iteF ?_
      have wm := wl.sm sm
      have km := kB.trans (KeepD.of (sil.trans sm))
      generalize upd Hl RR (.lst (xs.map V.str).reverse) = Hm at wm km ⊢
      have rdm := rdd.kd km
      have rGm := rG.kd km
      have rRm := rR.kd km
      clear rdd rG rR kB ki wl wi sil sik sl sk sj rdi eRR sm nRR nM eHRi e3i e2i e1i eTLi dp1 dp2 dp3 nTL kd np1T np2T np3T nHRT nHR km
      -- no entries
      have fdy : fDue ys (.list ds) = fDue xs (.list ds) := due_perm hys
      refine ⟨wm.tb, fun Hn en tn => ?_⟩
      have wn := wm.ext en tn
      have kn := keepD_ext en
      refine try_due (u := .non) (du := .none) (xs := xs) (d := .list ds) (fun _ => .non) (fun E Q0 h1 h2 => ?_) fun p4 us4 Ho so np4 ep4 dp4 => ?_
      · refine ⟨_, rfl, _, rfl, Nat.zero_le _, fun EL nEL => ?_⟩
        have s1 := same_new (o := .lst []) nEL
        exact ⟨b, ys, .ref G, .ref EL, .list ds, .list [], rfl, wn.bk.sm s1, (rGm.kd kn).to s1, lvi, Da.newL upd_same .nil, .inl rfl, fun hn H' s => h1 (by rw [← fdy]; exact hn) H' (s1.trans s), fun c val hd cls dd' v' H' s ie rv' => h2 c val (by rw [← fdy]; exact hd) cls dd' v' H' (s1.trans s) ie rv'⟩
      have wo := wn.sm so
      have ko := kn.trans (KeepD.of so)
      refine ⟨wo.tb, fun Hp ep tp => ?_⟩
      have wp := wo.ext ep tp
      have kp' := ko.trans (keepD_ext ep)
      refine try_due (u := .bl false) (du := .bool false) (xs := xs) (d := .list ds) (fun _ => .bl false) (fun E Q0 h1 h2 => ?_) fun p5 us5 Hq sq np5 ep5 dp5 => ?_
      · refine ⟨_, rfl, _, rfl, Nat.zero_le _, fun EL nEL => ⟨by show 1 ≤ sizeLine; decide, fun SL nSL => ?_⟩⟩
        have s1 := same_new (o := .lst []) nEL
        have s2 := s1.trans (same_new (o := .tup [.str "never"]) nSL)
        exact ⟨b, ys, .ref G, .ref EL, .ref SL, .list ds, .list [], rfl, wp.bk.sm s2, (rGm.kd kp').to s2, lvi, Da.newL (kp upd_same nSL) .nil, .inl rfl, fun hn H' s => h1 (by rw [← fdy]; exact hn) H' (s2.trans s), fun c val hd cls dd' v' H' s ie rv' => h2 c val (by rw [← fdy]; exact hd) cls dd' v' H' (s2.trans s) ie rv'⟩
      have wq := wp.sm sq
      have kq := kp'.trans (KeepD.of sq)
      have ep4q : Hq p4 = some (.tup us4) := sq _ _ (keepD_ext ep _ _ ep4 (plain_tup _))
      have rdq := rdm.kd kq
      refine ⟨fun σ H' => ∃ vl : V, σ = [some (.ref a), some (.ref D.p), some (.ref PL), some (.ref LL), some (.ref b), y5, some (.int mn), some (.ref R), y8, y9, some (.ref G), some rd, some (.ref TL), some (.ref HR), some (.ref p4), some (.ref p5), some vl, y17] ∧ Same Hq H' ∧ Da K H' vl (dueT (.bool false) (fDue xs (.list ds))), ?_, ?_⟩
      · obtain ⟨pd, us, e1, sqd, al⟩ : ∃ pd us, rd = .ref pd ∧ SqT K Hq pd us ∧ DaAll K Hq us (dueL .none (fDue xs (.list ds))) := by
          have h := rdq
          unfold dueT at h
          cases h with
          | tup a b c => exact ⟨_, _, rfl, a, c⟩
        subst e1
        cases hF : fDue xs (.list ds) with
        | none =>
          rw [hF] at al
          cases al with
          | cons h1 al =>
            cases h1
            refine ⟨_, rfl, pd, _, 0, _, rfl, rfl, sqd, atI_of (by decide) rfl, rfl, _, rfl, iteT ?_⟩
            exact ⟨by show 2 ≤ sizeLine; decide, fun r nr => ⟨_, rfl, same_new nr, Da.newT upd_same (.cons (.str _) (.cons (.bl _) .nil))⟩⟩
        | some cv =>
          obtain ⟨c9, val9⟩ := cv
          rw [hF] at al rdq
          cases al with
          | cons h1 al =>
            cases h1
            refine ⟨_, rfl, pd, _, 0, _, rfl, rfl, sqd, atI_of (by decide) rfl, rfl, _, rfl, iteF ?_⟩
            exact ⟨_, rfl, _, rfl, Same.refl _, rdq⟩
      rintro σ Hr ⟨vl, rfl, sr, rl⟩
      refine ⟨_, rfl, _, rfl, by show 2 ≤ sizeLine; decide, fun M1 m1 => ⟨_, rfl, _, rfl, by show 2 ≤ sizeLine; decide, fun M2 m2 => ?_⟩⟩
      have sm1 := same_new (o := .lst [.ref p4, .ref p5]) m1
      have sm2 := same_new (o := .lst [rd, vl]) m2
      have s12 := sm1.trans sm2
      have L2' : LvN 6 (.list [dueT .none (fDue xs (.list ds)), dueT (.bool false) (fDue xs (.list ds))]) := ⟨by show 2 ≤ 60; decide, fun e he => by
        simp only [List.mem_cons, List.not_mem_nil, or_false] at he
        rcases he with e | e
        · rw [e]; exact lvdu .none trivial
        · rw [e]; exact lvdu (.bool false) trivial⟩
      refine ⟨.ref M1, .ref M2, _, rfl, Da.newL (sm2 _ _ upd_same) (.cons (Da.newT (s12 _ _ (sr _ _ ep4q)) (dp4 _)) (.cons (Da.newT (s12 _ _ (sr _ _ ep5)) (dp5 _)) .nil)), Da.newL upd_same (.cons (((rdm.kd kq).to sr).to s12) (.cons (rl.to s12) .nil)), L2', fun Hs ss => ⟨_, rfl, iteF ?_⟩⟩
      have srs := sr.trans (s12.trans ss)
      refine ⟨_, rfl, _, rfl, .ref G, .ref R, .list ds, rfl, (rGm.kd kq).to srs, (rRm.kd kq).to srs, lvl, fun Ht st => ⟨_, rfl, iteF ?_⟩⟩
      exact ⟨_, _, _, _, _, _, _, _, _, _, _, _, _, rfl, wq.sm (srs.trans st)⟩
    rintro σ H11 ⟨y5, y6, y7, y8, y9, y10, y11, y12, y13, y14, y15, y16, y17, rfl, w⟩
    refine ⟨_, rfl, D, rfl, w.d, fun vo od H12 hod go ro => ?_⟩
    have w1 := w.go pPL pLL go
    have lvo : ∀ es, itemsF od = some es → ∀ e ∈ es, Lv 6 e := fun es he e hm => by
      have l2 := odds_lv od hod
      cases od with
      | list l => cases he; exact (l2.2 e hm).up.up.up.up.up
      | tuple l => cases he; exact (l2.2 e hm).up.up.up.up.up
      | _ => cases he
    have ro := ro.to hid_same
    refine ⟨_, rfl, _, rfl, PL, xs, vo, od, rfl, .inl (.inl w1.pl), ro, lvo, fun rd H13 s2 rdd => ?_⟩
    rw [dueT_none] at rdd
    have w2 := w1.sm s2
    have ro2 := ro.to s2
    have lvdu : ∀ du, Lv 3 du → Lv 4 (dueT du (fDue xs od)) := fun du h => due_lv h
    have shape : ∃ pd us, rd = .ref pd ∧ ∀ H', Same H13 H' ∨ KeepD H13 H' → SqT K H' pd us ∧ DaAll K H' us (dueL .none (fDue xs od)) := by
      have h := rdd
      unfold dueT at h
      cases h with
      | tup a b c => exact ⟨_, _, rfl, fun H' hs => hs.elim (fun s => ⟨same_t s a, c.to s⟩) fun k => ⟨k.t a, DaAll.keepD k _ _ c⟩⟩
    obtain ⟨pd, us, e1, shp⟩ := shape
    subst e1
    refine ⟨fun σ H' => ∃ vl : V, σ = [some (.ref a), some (.ref D.p), some (.ref PL), some (.ref LL), some (.ref b), y5, y6, y7, y8, y9, y10, some (.ref pd), y12, y13, y14, y15, some vl, some vo] ∧ Same H13 H' ∧ Da K H' vl (dueT (.bool false) (fDue xs od)), ?_, ?_⟩
    · obtain ⟨sqd, al⟩ := shp H13 (.inl (Same.refl _))
      cases hF : fDue xs od with
      | none =>
        rw [hF] at al
        cases al with
        | cons h1 al =>
          cases h1
          refine ⟨_, rfl, pd, _, 0, _, rfl, rfl, sqd, atI_of (by decide) rfl, rfl, _, rfl, iteT ?_⟩
          exact ⟨by show 2 ≤ sizeLine; decide, fun r nr => ⟨_, rfl, same_new nr, Da.newT upd_same (.cons (.str _) (.cons (.bl _) .nil))⟩⟩
      | some cv =>
        obtain ⟨c9, val9⟩ := cv
        rw [hF] at al rdd
        cases al with
        | cons h1 al =>
          cases h1
          refine ⟨_, rfl, pd, _, 0, _, rfl, rfl, sqd, atI_of (by decide) rfl, rfl, _, rfl, iteF ?_⟩
          exact ⟨_, rfl, _, rfl, Same.refl _, rdd⟩
    rintro σ H14 ⟨vl, rfl, s3, rl⟩
    subst hT
    have w3 := w2.sm s3
    have ro3 := ro2.to s3
    have fdy : fDue ys od = fDue xs od := due_perm hys
    refine ⟨w3.tb, fun Ha ea ta => ?_⟩
    have wa := w3.ext ea ta
    have ka := keepD_ext ea
    refine try_due (u := .non) (du := .none) (xs := xs) (d := od) (fun _ => .non) (fun E Q0 h1 h2 => ⟨_, rfl, _, rfl, PL, xs, vo, od, rfl, .inl (.inl wa.pl), ro3.kd ka, lvo, h1, h2⟩) fun p1 us1 Hb sb np1 ep1 dp1 => ?_
    have wb := wa.sm sb
    have kb := ka.trans (KeepD.of sb)
    refine ⟨wb.tb, fun Hc ec tc => ?_⟩
    have wc := wb.ext ec tc
    have kc := kb.trans (keepD_ext ec)
    refine try_due (u := .int (-1)) (du := .int (-1)) (xs := xs) (d := od) (fun _ => .int _) (fun E Q0 h1 h2 => ⟨_, rfl, _, rfl, b, ys, vo, .non, od, .none, rfl, wc.bk, ro3.kd kc, lvo, .non, .inr rfl, fun hn H' s => h1 (by rw [← fdy]; exact hn) H' s, fun c val hd cls dd' v' H' s ie rv' => h2 c val (by rw [← fdy]; exact hd) cls dd' v' H' s ie rv'⟩) fun p2 us2 Hd sd np2 ep2 dp2 => ?_
    have wd := wc.sm sd
    have kd := kc.trans (KeepD.of sd)
    refine ⟨wd.tb, fun He ee te => ?_⟩
    have we := wd.ext ee te
    have ke := kd.trans (keepD_ext ee)
    refine try_due (u := .bl false) (du := .bool false) (xs := xs) (d := od) (fun _ => .bl _) (fun E Q0 h1 h2 => ⟨_, rfl, _, rfl, b, ys, vo, .non, .non, od, .none, rfl, we.bk, ro3.kd ke, lvo, .non, .inr rfl, fun hn H' s => h1 (by rw [← fdy]; exact hn) H' s, fun c val hd cls dd' v' H' s ie rv' => h2 c val (by rw [← fdy]; exact hd) cls dd' v' H' s ie rv'⟩) fun p3 us3 Hf sf np3 ep3 dp3 => ?_
    have kf := ke.trans (KeepD.of sf)
    have ep2f : Hf p2 = some (.tup us2) := sf _ _ (keepD_ext ee _ _ ep2 (plain_tup _))
    have ep1f : Hf p1 = some (.tup us1) := sf _ _ (keepD_ext ee _ _ (sd _ _ (keepD_ext ec _ _ ep1 (plain_tup _))) (plain_tup _))
    have rlf := rl.kd kf
    have rdf := ((rdd.to s3).kd kf)
    refine ⟨by show 3 ≤ sizeLine; decide, fun TL nTL => ?_⟩
    have sg := same_new (o := .lst [.ref p1, .ref p2, .ref p3]) nTL
    have eTL : (upd Hf TL (.lst [.ref p1, .ref p2, .ref p3])) TL = some (.lst [.ref p1, .ref p2, .ref p3]) := upd_same
    have e1g := sg _ _ ep1f
    have e2g := sg _ _ ep2f
    have e3g := sg _ _ ep3
    have rlg := rlf.to sg
    have rdg := rdf.to sg
    have kg := (KeepD.of s3).trans (kf.trans (KeepD.of sg))
    generalize upd Hf TL (.lst [.ref p1, .ref p2, .ref p3]) = Hg at eTL e1g e2g e3g rlg rdg kg ⊢
    have L3 : LvN 6 (.list [dueT .none (fDue xs od), dueT (.int (-1)) (fDue xs od), dueT (.bool false) (fDue xs od)]) := ⟨by show 3 ≤ 60; decide, fun e he => by
      simp only [List.mem_cons, List.not_mem_nil, or_false] at he
      rcases he with e | e | e
      · rw [e]; exact lvdu .none trivial
      · rw [e]; exact lvdu (.int (-1)) trivial
      · rw [e]; exact lvdu (.bool false) trivial⟩
    have fin : ∀ (vm : V) (Hh : _root_.L2.Hp) (M : Addr), Same Hg Hh → Da K Hh vm (dueT (.int (-1)) (fDue xs od)) → Hh M = none → spSm K 6 [.ref TL, .ref M] (upd Hh M (.lst [.ref pd, vm, vl])) Q (fun _ _ _ => False) := fun vm Hh M s rm nM => by
      have t := s.trans (same_new (o := .lst [.ref pd, vm, vl]) nM)
      exact ⟨.ref TL, .ref M, _, rfl, Da.newL (t _ _ eTL) (.cons (Da.newT (t _ _ e1g) (dp1 _)) (.cons (Da.newT (t _ _ e2g) (dp2 _)) (.cons (Da.newT (t _ _ e3g) (dp3 _)) .nil))), Da.newL upd_same (.cons (rdg.to t) (.cons (rm.to (same_new nM)) (.cons (rlg.to t) .nil))), L3, fun Hi _ => q Hi⟩
    obtain ⟨sqd, al⟩ := shp Hg (.inr kg)
    cases hF : fDue xs od with
    | none =>
      rw [hF] at al
      cases al with
      | cons h1 al =>
        cases h1
        refine ⟨_, rfl, _, rfl, _, rfl, pd, _, 0, _, rfl, rfl, sqd, atI_of (by decide) rfl, rfl, _, rfl, iteT ?_⟩
        refine ⟨1, rfl, by show 2 ≤ sizeLine; decide, fun r nr => ⟨_, rfl, by show 3 ≤ sizeLine; decide, fun M nM => ?_⟩⟩
        exact fin (.ref r) _ M (same_new nr) (by rw [hF]; exact Da.newT upd_same (.cons (.str _) (.cons (.int _) .nil))) nM
    | some cv =>
      obtain ⟨c9, val9⟩ := cv
      rw [hF] at al
      cases al with
      | cons h1 al =>
        cases h1
        refine ⟨_, rfl, _, rfl, _, rfl, pd, _, 0, _, rfl, rfl, sqd, atI_of (by decide) rfl, rfl, _, rfl, iteF ?_⟩
        refine ⟨_, rfl, _, rfl, by show 3 ≤ sizeLine; decide, fun M nM => ?_⟩
        exact fin (.ref pd) Hg M (Same.refl _) (by rw [hF] at rdg ⊢; exact rdg) nM
end
end Th
namespace Th
open PySem PySem.Spec PyProof.Rows L2
theorem at_mk {K : PySem.W.Frag} {h : Heap} {mg : Str → Option Value} {x : Str} {st : Stmt} {ps : List Str} {f : Addr} {oc : Value} {od an : Option Addr} {osl : Array (Option Value)} {kV doc pm cdv ct : Value} (X : K.In h) (G : h.Ns mainGlobals mg)
    (a : PySem.W.nsIn K mainGlobals x = some (some (.ref f))) (l : K.lookup f = some ⟨oc, od, .func (PySem.W.fnOf x x (defArgs st) (defBody st) (defScope st) .none kV doc pm an cdv ct), osl⟩) (c : PySem.W.codeIn K cdv x = true) (k : PySem.W.keepIn K (.ref f) = true)
    (hb : ∀ (kV doc pm : Value) (an : Option Addr) (cdv ct : Value) (us : List Value), us.length = ps.length → bindArgs (PySem.W.fnOf x x (defArgs st) (defBody st) (defScope st) .none kV doc pm an cdv ct) ⟨us, []⟩ = pure (ps.zip us)) : At K mg x st ps :=
  ⟨f, _, fun_mk (st := st) l c k, PySem.W.mg_of X G a, (fun_mk (st := st) l c k).binds (ps := ps) hb⟩
theorem all_mk {l : PySem.W.OpenLaw} {w : World} {K : PySem.W.Frag} {h : Heap} {mg : Str → Option Value} {fa : Addr} (X : K.In h) (G : h.Ns mainGlobals mg) (own : LamX.OwnTab K fa h)
    {f0 : Addr} {od0 an0 : Option Addr} {sl0 : Array (Option Value)} {oc0 kV0 dc0 pm0 ct0 : Value} {cd0 : Value}
    {f1 : Addr} {od1 an1 : Option Addr} {sl1 : Array (Option Value)} {oc1 kV1 dc1 pm1 ct1 : Value} {cd1 : Value}
    {f2 : Addr} {od2 an2 : Option Addr} {sl2 : Array (Option Value)} {oc2 kV2 dc2 pm2 ct2 : Value} {cd2 : Value}
    {f3 : Addr} {od3 an3 : Option Addr} {sl3 : Array (Option Value)} {oc3 kV3 dc3 pm3 ct3 : Value} {cd3 : Value}
    {f4 : Addr} {od4 an4 : Option Addr} {sl4 : Array (Option Value)} {oc4 kV4 dc4 pm4 ct4 : Value} {cd4 : Value}
    {f5 : Addr} {od5 an5 : Option Addr} {sl5 : Array (Option Value)} {oc5 kV5 dc5 pm5 ct5 : Value} {cd5 : Value}
    {f6 : Addr} {od6 an6 : Option Addr} {sl6 : Array (Option Value)} {oc6 kV6 dc6 pm6 ct6 : Value} {cd6 : Value}
    {f7 : Addr} {od7 an7 : Option Addr} {sl7 : Array (Option Value)} {oc7 kV7 dc7 pm7 ct7 : Value} {cd7 : Value}
    {f8 : Addr} {od8 an8 : Option Addr} {sl8 : Array (Option Value)} {oc8 kV8 dc8 pm8 ct8 : Value} {cd8 : Value}
    {f9 : Addr} {od9 an9 : Option Addr} {sl9 : Array (Option Value)} {oc9 kV9 dc9 pm9 ct9 : Value} {cd9 : Value}
    {f10 : Addr} {od10 an10 : Option Addr} {sl10 : Array (Option Value)} {oc10 kV10 dc10 pm10 ct10 : Value} {cd10 : Value}
    {f11 : Addr} {od11 an11 : Option Addr} {sl11 : Array (Option Value)} {oc11 kV11 dc11 pm11 ct11 : Value} {cd11 : Value}
    {f12 : Addr} {od12 an12 : Option Addr} {sl12 : Array (Option Value)} {oc12 kV12 dc12 pm12 ct12 : Value} {cd12 : Value}
    {f13 : Addr} {od13 an13 : Option Addr} {sl13 : Array (Option Value)} {oc13 kV13 dc13 pm13 ct13 : Value} {cd13 : Value}
    {f14 : Addr} {od14 an14 : Option Addr} {sl14 : Array (Option Value)} {oc14 kV14 dc14 pm14 ct14 : Value} {cd14 : Value}
    {f15 : Addr} {od15 an15 : Option Addr} {sl15 : Array (Option Value)} {oc15 kV15 dc15 pm15 ct15 : Value} {cd15 : Value}
    {f16 : Addr} {od16 an16 : Option Addr} {sl16 : Array (Option Value)} {oc16 kV16 dc16 pm16 ct16 : Value} {cd16 : Value}
    {f17 : Addr} {od17 an17 : Option Addr} {sl17 : Array (Option Value)} {oc17 kV17 dc17 pm17 ct17 : Value} {cd17 : Value}
    {f18 : Addr} {od18 an18 : Option Addr} {sl18 : Array (Option Value)} {oc18 kV18 dc18 pm18 ct18 : Value} {cd18 : Value}
    {f19 : Addr} {od19 an19 : Option Addr} {sl19 : Array (Option Value)} {oc19 kV19 dc19 pm19 ct19 : Value} {cd19 : Value}
    {f20 : Addr} {od20 an20 : Option Addr} {sl20 : Array (Option Value)} {oc20 kV20 dc20 pm20 ct20 : Value} {cd20 : Value}
    {f21 : Addr} {od21 an21 : Option Addr} {sl21 : Array (Option Value)} {oc21 kV21 dc21 pm21 ct21 : Value} {cd21 : Value}
    {f22 : Addr} {od22 an22 : Option Addr} {sl22 : Array (Option Value)} {oc22 kV22 dc22 pm22 ct22 : Value} {cd22 : Value}
    {f23 : Addr} {od23 an23 : Option Addr} {sl23 : Array (Option Value)} {oc23 kV23 dc23 pm23 ct23 : Value} {cd23 : Value}
    {f24 : Addr} {od24 an24 : Option Addr} {sl24 : Array (Option Value)} {oc24 kV24 dc24 pm24 ct24 : Value} {cd24 : Value}
    {f25 : Addr} {od25 an25 : Option Addr} {sl25 : Array (Option Value)} {oc25 kV25 dc25 pm25 ct25 : Value} {cd25 : Value}
    {f26 : Addr} {od26 an26 : Option Addr} {sl26 : Array (Option Value)} {oc26 kV26 dc26 pm26 ct26 : Value} {cd26 : Value}
    {f27 : Addr} {od27 an27 : Option Addr} {sl27 : Array (Option Value)} {oc27 kV27 dc27 pm27 ct27 : Value} {cd27 : Value}
    {f28 : Addr} {od28 an28 : Option Addr} {sl28 : Array (Option Value)} {oc28 kV28 dc28 pm28 ct28 : Value} {cd28 : Value}
    {f29 : Addr} {od29 an29 : Option Addr} {sl29 : Array (Option Value)} {oc29 kV29 dc29 pm29 ct29 : Value} {cd29 : Value}
    {f30 : Addr} {od30 an30 : Option Addr} {sl30 : Array (Option Value)} {oc30 kV30 dc30 pm30 ct30 : Value} {cd30 : Value}
    {f31 : Addr} {od31 an31 : Option Addr} {sl31 : Array (Option Value)} {oc31 kV31 dc31 pm31 ct31 : Value} {cd31 : Value}
    {f32 : Addr} {od32 an32 : Option Addr} {sl32 : Array (Option Value)} {oc32 kV32 dc32 pm32 ct32 : Value} {cc Pt : Addr} {eC : Value} {dC : Option Addr} {vC : Array Value} {sC : Array (Option Value)}
    {b1 : Addr}
    {b2 : Addr}
    {C33 f33 : Addr} {od33 an33 : Option Addr} {sl33 : Array (Option Value)} {oc33 kV33 dc33 pm33 cd33 ct33 : Value}
    {C34 f34 : Addr} {od34 an34 : Option Addr} {sl34 : Array (Option Value)} {oc34 kV34 dc34 pm34 cd34 ct34 : Value}
    {C35 f35 : Addr} {od35 an35 : Option Addr} {sl35 : Array (Option Value)} {oc35 kV35 dc35 pm35 cd35 ct35 : Value}
    {C36 f36 : Addr} {od36 an36 : Option Addr} {sl36 : Array (Option Value)} {oc36 kV36 dc36 pm36 cd36 ct36 : Value}
    {C37 f37 : Addr} {od37 an37 : Option Addr} {sl37 : Array (Option Value)} {oc37 kV37 dc37 pm37 cd37 ct37 : Value}
    {C38 f38 : Addr} {od38 an38 : Option Addr} {sl38 : Array (Option Value)} {oc38 kV38 dc38 pm38 cd38 ct38 : Value}
    {CB fI : Addr}
    {od39 an39 : Option Addr} {sl39 : Array (Option Value)} {oc39 kV39 dc39 pm39 cd39 ct39 : Value}
    {T39 t39 : Addr} {dT39 d039 : Option Addr} {iT39 : List Value} {nT39 n039 : Nat} {sT39 s039 : Array (Option Value)}
    {f40 : Addr} {od40 an40 : Option Addr} {sl40 : Array (Option Value)} {oc40 kV40 dc40 pm40 cd40 ct40 : Value}
    {tL : Tok}
    {tM : Tok}
    {tgMF : Tok}
    {dMN : Addr} {eMN : List DictEntry} {nMN : Nat} {t1MN t2MN t3MN : Tok}
    {tgMX : Tok}
    {tgMW : Tok}
    (hfa : mg "law" = some (.ref fa))
    (a0 : PySem.W.nsIn K mainGlobals "copied" = some (some (.ref f0))) (l0 : K.lookup f0 = some ⟨oc0, od0, .func (PySem.W.fnOf "copied" "copied" (defArgs s_p_copied) (defBody s_p_copied) (defScope s_p_copied) .none kV0 dc0 pm0 an0 cd0 ct0), sl0⟩) (c0 : PySem.W.codeIn K cd0 "copied" = true) (k0 : PySem.W.keepIn K (.ref f0) = true)
    (a1 : PySem.W.nsIn K mainGlobals "is_name" = some (some (.ref f1))) (l1 : K.lookup f1 = some ⟨oc1, od1, .func (PySem.W.fnOf "is_name" "is_name" (defArgs s_p_is_name) (defBody s_p_is_name) (defScope s_p_is_name) .none kV1 dc1 pm1 an1 cd1 ct1), sl1⟩) (c1 : PySem.W.codeIn K cd1 "is_name" = true) (k1 : PySem.W.keepIn K (.ref f1) = true)
    (a2 : PySem.W.nsIn K mainGlobals "are_names" = some (some (.ref f2))) (l2 : K.lookup f2 = some ⟨oc2, od2, .func (PySem.W.fnOf "are_names" "are_names" (defArgs s_p_are_names) (defBody s_p_are_names) (defScope s_p_are_names) .none kV2 dc2 pm2 an2 cd2 ct2), sl2⟩) (c2 : PySem.W.codeIn K cd2 "are_names" = true) (k2 : PySem.W.keepIn K (.ref f2) = true)
    (a3 : PySem.W.nsIn K mainGlobals "is_listed" = some (some (.ref f3))) (l3 : K.lookup f3 = some ⟨oc3, od3, .func (PySem.W.fnOf "is_listed" "is_listed" (defArgs s_p_is_listed) (defBody s_p_is_listed) (defScope s_p_is_listed) .none kV3 dc3 pm3 an3 cd3 ct3), sl3⟩) (c3 : PySem.W.codeIn K cd3 "is_listed" = true) (k3 : PySem.W.keepIn K (.ref f3) = true)
    (a4 : PySem.W.nsIn K mainGlobals "check_finds" = some (some (.ref f4))) (l4 : K.lookup f4 = some ⟨oc4, od4, .func (PySem.W.fnOf "check_finds" "check_finds" (defArgs s_p_check_finds) (defBody s_p_check_finds) (defScope s_p_check_finds) .none kV4 dc4 pm4 an4 cd4 ct4), sl4⟩) (c4 : PySem.W.codeIn K cd4 "check_finds" = true) (k4 : PySem.W.keepIn K (.ref f4) = true)
    (a5 : PySem.W.nsIn K mainGlobals "check_different" = some (some (.ref f5))) (l5 : K.lookup f5 = some ⟨oc5, od5, .func (PySem.W.fnOf "check_different" "check_different" (defArgs s_p_check_different) (defBody s_p_check_different) (defScope s_p_check_different) .none kV5 dc5 pm5 an5 cd5 ct5), sl5⟩) (c5 : PySem.W.codeIn K cd5 "check_different" = true) (k5 : PySem.W.keepIn K (.ref f5) = true)
    (a6 : PySem.W.nsIn K mainGlobals "is_fact" = some (some (.ref f6))) (l6 : K.lookup f6 = some ⟨oc6, od6, .func (PySem.W.fnOf "is_fact" "is_fact" (defArgs s_p_is_fact) (defBody s_p_is_fact) (defScope s_p_is_fact) .none kV6 dc6 pm6 an6 cd6 ct6), sl6⟩) (c6 : PySem.W.codeIn K cd6 "is_fact" = true) (k6 : PySem.W.keepIn K (.ref f6) = true)
    (a7 : PySem.W.nsIn K mainGlobals "is_marked_fact" = some (some (.ref f7))) (l7 : K.lookup f7 = some ⟨oc7, od7, .func (PySem.W.fnOf "is_marked_fact" "is_marked_fact" (defArgs s_p_is_marked_fact) (defBody s_p_is_marked_fact) (defScope s_p_is_marked_fact) .none kV7 dc7 pm7 an7 cd7 ct7), sl7⟩) (c7 : PySem.W.codeIn K cd7 "is_marked_fact" = true) (k7 : PySem.W.keepIn K (.ref f7) = true)
    (a8 : PySem.W.nsIn K mainGlobals "names_in" = some (some (.ref f8))) (l8 : K.lookup f8 = some ⟨oc8, od8, .func (PySem.W.fnOf "names_in" "names_in" (defArgs s_p_names_in) (defBody s_p_names_in) (defScope s_p_names_in) .none kV8 dc8 pm8 an8 cd8 ct8), sl8⟩) (c8 : PySem.W.codeIn K cd8 "names_in" = true) (k8 : PySem.W.keepIn K (.ref f8) = true)
    (a9 : PySem.W.nsIn K mainGlobals "check_facts" = some (some (.ref f9))) (l9 : K.lookup f9 = some ⟨oc9, od9, .func (PySem.W.fnOf "check_facts" "check_facts" (defArgs s_p_check_facts) (defBody s_p_check_facts) (defScope s_p_check_facts) .none kV9 dc9 pm9 an9 cd9 ct9), sl9⟩) (c9 : PySem.W.codeIn K cd9 "check_facts" = true) (k9 : PySem.W.keepIn K (.ref f9) = true)
    (a10 : PySem.W.nsIn K mainGlobals "_is_word_of" = some (some (.ref f10))) (l10 : K.lookup f10 = some ⟨oc10, od10, .func (PySem.W.fnOf "_is_word_of" "_is_word_of" (defArgs s_p_is_word_of) (defBody s_p_is_word_of) (defScope s_p_is_word_of) .none kV10 dc10 pm10 an10 cd10 ct10), sl10⟩) (c10 : PySem.W.codeIn K cd10 "_is_word_of" = true) (k10 : PySem.W.keepIn K (.ref f10) = true)
    (a11 : PySem.W.nsIn K mainGlobals "first_fault" = some (some (.ref f11))) (l11 : K.lookup f11 = some ⟨oc11, od11, .func (PySem.W.fnOf "first_fault" "first_fault" (defArgs s_p_first_fault) (defBody s_p_first_fault) (defScope s_p_first_fault) .none kV11 dc11 pm11 an11 cd11 ct11), sl11⟩) (c11 : PySem.W.codeIn K cd11 "first_fault" = true) (k11 : PySem.W.keepIn K (.ref f11) = true)
    (a12 : PySem.W.nsIn K mainGlobals "shows" = some (some (.ref f12))) (l12 : K.lookup f12 = some ⟨oc12, od12, .func (PySem.W.fnOf "shows" "shows" (defArgs s_p_shows) (defBody s_p_shows) (defScope s_p_shows) .none kV12 dc12 pm12 an12 cd12 ct12), sl12⟩) (c12 : PySem.W.codeIn K cd12 "shows" = true) (k12 : PySem.W.keepIn K (.ref f12) = true)
    (a13 : PySem.W.nsIn K mainGlobals "_is_entry" = some (some (.ref f13))) (l13 : K.lookup f13 = some ⟨oc13, od13, .func (PySem.W.fnOf "_is_entry" "_is_entry" (defArgs s_p_is_entry) (defBody s_p_is_entry) (defScope s_p_is_entry) .none kV13 dc13 pm13 an13 cd13 ct13), sl13⟩) (c13 : PySem.W.codeIn K cd13 "_is_entry" = true) (k13 : PySem.W.keepIn K (.ref f13) = true)
    (a14 : PySem.W.nsIn K mainGlobals "_is_right" = some (some (.ref f14))) (l14 : K.lookup f14 = some ⟨oc14, od14, .func (PySem.W.fnOf "_is_right" "_is_right" (defArgs s_p_is_right) (defBody s_p_is_right) (defScope s_p_is_right) .none kV14 dc14 pm14 an14 cd14 ct14), sl14⟩) (c14 : PySem.W.codeIn K cd14 "_is_right" = true) (k14 : PySem.W.keepIn K (.ref f14) = true)
    (a15 : PySem.W.nsIn K mainGlobals "_law_start" = some (some (.ref f15))) (l15 : K.lookup f15 = some ⟨oc15, od15, .func (PySem.W.fnOf "_law_start" "_law_start" (defArgs s_l_start) (defBody s_l_start) (defScope s_l_start) .none kV15 dc15 pm15 an15 cd15 ct15), sl15⟩) (c15 : PySem.W.codeIn K cd15 "_law_start" = true) (k15 : PySem.W.keepIn K (.ref f15) = true)
    (a16 : PySem.W.nsIn K mainGlobals "_law_draw" = some (some (.ref f16))) (l16 : K.lookup f16 = some ⟨oc16, od16, .func (PySem.W.fnOf "_law_draw" "_law_draw" (defArgs s_l_draw) (defBody s_l_draw) (defScope s_l_draw) .none kV16 dc16 pm16 an16 cd16 ct16), sl16⟩) (c16 : PySem.W.codeIn K cd16 "_law_draw" = true) (k16 : PySem.W.keepIn K (.ref f16) = true)
    (a17 : PySem.W.nsIn K mainGlobals "_law_pick" = some (some (.ref f17))) (l17 : K.lookup f17 = some ⟨oc17, od17, .func (PySem.W.fnOf "_law_pick" "_law_pick" (defArgs s_l_pick) (defBody s_l_pick) (defScope s_l_pick) .none kV17 dc17 pm17 an17 cd17 ct17), sl17⟩) (c17 : PySem.W.codeIn K cd17 "_law_pick" = true) (k17 : PySem.W.keepIn K (.ref f17) = true)
    (a18 : PySem.W.nsIn K mainGlobals "_law_shuffle" = some (some (.ref f18))) (l18 : K.lookup f18 = some ⟨oc18, od18, .func (PySem.W.fnOf "_law_shuffle" "_law_shuffle" (defArgs s_l_shuffle) (defBody s_l_shuffle) (defScope s_l_shuffle) .none kV18 dc18 pm18 an18 cd18 ct18), sl18⟩) (c18 : PySem.W.codeIn K cd18 "_law_shuffle" = true) (k18 : PySem.W.keepIn K (.ref f18) = true)
    (a19 : PySem.W.nsIn K mainGlobals "_law_letters" = some (some (.ref f19))) (l19 : K.lookup f19 = some ⟨oc19, od19, .func (PySem.W.fnOf "_law_letters" "_law_letters" (defArgs s_l_letters) (defBody s_l_letters) (defScope s_l_letters) .none kV19 dc19 pm19 an19 cd19 ct19), sl19⟩) (c19 : PySem.W.codeIn K cd19 "_law_letters" = true) (k19 : PySem.W.keepIn K (.ref f19) = true)
    (a20 : PySem.W.nsIn K mainGlobals "_law_word" = some (some (.ref f20))) (l20 : K.lookup f20 = some ⟨oc20, od20, .func (PySem.W.fnOf "_law_word" "_law_word" (defArgs s_l_word) (defBody s_l_word) (defScope s_l_word) .none kV20 dc20 pm20 an20 cd20 ct20), sl20⟩) (c20 : PySem.W.codeIn K cd20 "_law_word" = true) (k20 : PySem.W.keepIn K (.ref f20) = true)
    (a21 : PySem.W.nsIn K mainGlobals "_law_names" = some (some (.ref f21))) (l21 : K.lookup f21 = some ⟨oc21, od21, .func (PySem.W.fnOf "_law_names" "_law_names" (defArgs s_l_names) (defBody s_l_names) (defScope s_l_names) .none kV21 dc21 pm21 an21 cd21 ct21), sl21⟩) (c21 : PySem.W.codeIn K cd21 "_law_names" = true) (k21 : PySem.W.keepIn K (.ref f21) = true)
    (a22 : PySem.W.nsIn K mainGlobals "_law_odd" = some (some (.ref f22))) (l22 : K.lookup f22 = some ⟨oc22, od22, .func (PySem.W.fnOf "_law_odd" "_law_odd" (defArgs s_l_odd) (defBody s_l_odd) (defScope s_l_odd) .none kV22 dc22 pm22 an22 cd22 ct22), sl22⟩) (c22 : PySem.W.codeIn K cd22 "_law_odd" = true) (k22 : PySem.W.keepIn K (.ref f22) = true)
    (a23 : PySem.W.nsIn K mainGlobals "_law_same" = some (some (.ref f23))) (l23 : K.lookup f23 = some ⟨oc23, od23, .func (PySem.W.fnOf "_law_same" "_law_same" (defArgs s_l_same) (defBody s_l_same) (defScope s_l_same) .none kV23 dc23 pm23 an23 cd23 ct23), sl23⟩) (c23 : PySem.W.codeIn K cd23 "_law_same" = true) (k23 : PySem.W.keepIn K (.ref f23) = true)
    (a24 : PySem.W.nsIn K mainGlobals "_law_fields" = some (some (.ref f24))) (l24 : K.lookup f24 = some ⟨oc24, od24, .func (PySem.W.fnOf "_law_fields" "_law_fields" (defArgs s_l_fields) (defBody s_l_fields) (defScope s_l_fields) .none kV24 dc24 pm24 an24 cd24 ct24), sl24⟩) (c24 : PySem.W.codeIn K cd24 "_law_fields" = true) (k24 : PySem.W.keepIn K (.ref f24) = true)
    (a25 : PySem.W.nsIn K mainGlobals "_law_try" = some (some (.ref f25))) (l25 : K.lookup f25 = some ⟨oc25, od25, .func (PySem.W.fnOf "_law_try" "_law_try" (defArgs s_l_try) (defBody s_l_try) (defScope s_l_try) .none kV25 dc25 pm25 an25 cd25 ct25), sl25⟩) (c25 : PySem.W.codeIn K cd25 "_law_try" = true) (k25 : PySem.W.keepIn K (.ref f25) = true)
    (a26 : PySem.W.nsIn K mainGlobals "_law_is_name" = some (some (.ref f26))) (l26 : K.lookup f26 = some ⟨oc26, od26, .func (PySem.W.fnOf "_law_is_name" "_law_is_name" (defArgs s_l_is_name) (defBody s_l_is_name) (defScope s_l_is_name) .none kV26 dc26 pm26 an26 cd26 ct26), sl26⟩) (c26 : PySem.W.codeIn K cd26 "_law_is_name" = true) (k26 : PySem.W.keepIn K (.ref f26) = true)
    (a27 : PySem.W.nsIn K mainGlobals "_law_is_fact" = some (some (.ref f27))) (l27 : K.lookup f27 = some ⟨oc27, od27, .func (PySem.W.fnOf "_law_is_fact" "_law_is_fact" (defArgs s_l_is_fact) (defBody s_l_is_fact) (defScope s_l_is_fact) .none kV27 dc27 pm27 an27 cd27 ct27), sl27⟩) (c27 : PySem.W.codeIn K cd27 "_law_is_fact" = true) (k27 : PySem.W.keepIn K (.ref f27) = true)
    (a28 : PySem.W.nsIn K mainGlobals "_law_is_marked" = some (some (.ref f28))) (l28 : K.lookup f28 = some ⟨oc28, od28, .func (PySem.W.fnOf "_law_is_marked" "_law_is_marked" (defArgs s_l_is_marked) (defBody s_l_is_marked) (defScope s_l_is_marked) .none kV28 dc28 pm28 an28 cd28 ct28), sl28⟩) (c28 : PySem.W.codeIn K cd28 "_law_is_marked" = true) (k28 : PySem.W.keepIn K (.ref f28) = true)
    (a29 : PySem.W.nsIn K mainGlobals "_law_fact" = some (some (.ref f29))) (l29 : K.lookup f29 = some ⟨oc29, od29, .func (PySem.W.fnOf "_law_fact" "_law_fact" (defArgs s_l_fact) (defBody s_l_fact) (defScope s_l_fact) .none kV29 dc29 pm29 an29 cd29 ct29), sl29⟩) (c29 : PySem.W.codeIn K cd29 "_law_fact" = true) (k29 : PySem.W.keepIn K (.ref f29) = true)
    (a30 : PySem.W.nsIn K mainGlobals "_law_spoilt" = some (some (.ref f30))) (l30 : K.lookup f30 = some ⟨oc30, od30, .func (PySem.W.fnOf "_law_spoilt" "_law_spoilt" (defArgs s_l_spoilt) (defBody s_l_spoilt) (defScope s_l_spoilt) .none kV30 dc30 pm30 an30 cd30 ct30), sl30⟩) (c30 : PySem.W.codeIn K cd30 "_law_spoilt" = true) (k30 : PySem.W.keepIn K (.ref f30) = true)
    (a31 : PySem.W.nsIn K mainGlobals "_law_facts_due" = some (some (.ref f31))) (l31 : K.lookup f31 = some ⟨oc31, od31, .func (PySem.W.fnOf "_law_facts_due" "_law_facts_due" (defArgs s_l_facts_due) (defBody s_l_facts_due) (defScope s_l_facts_due) .none kV31 dc31 pm31 an31 cd31 ct31), sl31⟩) (c31 : PySem.W.codeIn K cd31 "_law_facts_due" = true) (k31 : PySem.W.keepIn K (.ref f31) = true)
    (a32 : PySem.W.nsIn K mainGlobals "law" = some (some (.ref f32))) (l32 : K.lookup f32 = some ⟨oc32, od32, .func (PySem.W.fnOf "law" "law" (defArgs s_p_law) (defBody s_p_law) (defScope s_p_law) .none kV32 dc32 pm32 an32 (.ref cc) ct32), sl32⟩) (c32 : PySem.W.codeIn K (.ref cc) "law" = true) (k32 : PySem.W.keepIn K (.ref f32) = true)
    (lc : K.lookup cc = some ⟨eC, dC, .fields vC, sC⟩) (pc : vC[11]? = some (.ref Pt)) (np : K.lookup Pt = none) (hcd : PySem.W.codeHdIn K cc Pt = true)
    (z_len : PySem.W.nsIn K mainGlobals "len" = some none)
    (z_range : PySem.W.nsIn K mainGlobals "range" = some none)
    (z_int : PySem.W.nsIn K mainGlobals "int" = some none)
    (z_abs : PySem.W.nsIn K mainGlobals "abs" = some none)
    (z_isinstance : PySem.W.nsIn K mainGlobals "isinstance" = some none)
    (z_all : PySem.W.nsIn K mainGlobals "all" = some none)
    (z_any : PySem.W.nsIn K mainGlobals "any" = some none)
    (z_sorted : PySem.W.nsIn K mainGlobals "sorted" = some none)
    (z_set : PySem.W.nsIn K mainGlobals "set" = some none)
    (z_list : PySem.W.nsIn K mainGlobals "list" = some none)
    (z_tuple : PySem.W.nsIn K mainGlobals "tuple" = some none)
    (z_str : PySem.W.nsIn K mainGlobals "str" = some none)
    (z_bool : PySem.W.nsIn K mainGlobals "bool" = some none)
    (z_enumerate : PySem.W.nsIn K mainGlobals "enumerate" = some none)
    (z_min : PySem.W.nsIn K mainGlobals "min" = some none)
    (z_max : PySem.W.nsIn K mainGlobals "max" = some none)
    (ab1 : PySem.W.nsIn K mainGlobals "FindError" = some (some (.ref b1)))
    (ab2 : PySem.W.nsIn K mainGlobals "Missing" = some (some (.ref b2)))
    (a33 : PySem.W.nsIn K mainGlobals "InvalidFind" = some (some (.ref C33)))
    (ei33 : PySem.W.excInitIn K C33 [.type "ValueError", .type "Exception", .type "BaseException", .type "object"] "ValueError.__new__" = true)
    (eo33 : PySem.W.excOver K C33 [.type "ValueError", .type "Exception", .type "BaseException", .type "object"] = true)
    (sa33 : PySem.W.findIn K (.ref C33) "__setattr__" = some (some (.builtin "object.__setattr__")))
    (ex33 : PySem.W.subIn K (.ref C33) (.type "BaseException") = some true)
    (ty33 : PySem.W.typeIn K (.ref C33) = some (.type "type"))
    (kC33 : PySem.W.keepIn K (.ref C33) = true)
    (hd33 : PySem.W.hasDictIn K C33 = true)
    (ga33 : PySem.W.findIn K (.ref C33) "__getattribute__" = some (some (.builtin "BaseException.__getattribute__")))
    (gg33 : PySem.W.findIn K (.ref C33) "__getattr__" = some none)
    (in33 : PySem.W.findIn K (.ref C33) "__init__" = some (some (.ref f33)))
    (ti33 : PySem.W.typeIn K (.ref f33) = some (.type "function"))
    (l33 : K.lookup f33 = some ⟨oc33, od33, .func (PySem.W.fnOf "__init__" "InvalidFind.__init__" (defArgs s_c_InvalidFind_init) (defBody s_c_InvalidFind_init) (defScope s_c_InvalidFind_init) .none kV33 dc33 pm33 an33 cd33 ct33), sl33⟩) (c33 : PySem.W.codeIn K cd33 "InvalidFind.__init__" = true) (k33 : PySem.W.keepIn K (.ref f33) = true)
    (ca33 : PySem.W.exmAny K (.ref C33) [.ref b1, .ref b2] = some true)
    (nf33_0 : PySem.W.findIn K (.ref C33) "at" = some none)
    (nf33_1 : PySem.W.findIn K (.ref C33) "code" = some none)
    (a34 : PySem.W.nsIn K mainGlobals "InvalidWord" = some (some (.ref C34)))
    (ei34 : PySem.W.excInitIn K C34 [.type "ValueError", .type "Exception", .type "BaseException", .type "object"] "ValueError.__new__" = true)
    (eo34 : PySem.W.excOver K C34 [.type "ValueError", .type "Exception", .type "BaseException", .type "object"] = true)
    (sa34 : PySem.W.findIn K (.ref C34) "__setattr__" = some (some (.builtin "object.__setattr__")))
    (ex34 : PySem.W.subIn K (.ref C34) (.type "BaseException") = some true)
    (ty34 : PySem.W.typeIn K (.ref C34) = some (.type "type"))
    (kC34 : PySem.W.keepIn K (.ref C34) = true)
    (hd34 : PySem.W.hasDictIn K C34 = true)
    (ga34 : PySem.W.findIn K (.ref C34) "__getattribute__" = some (some (.builtin "BaseException.__getattribute__")))
    (gg34 : PySem.W.findIn K (.ref C34) "__getattr__" = some none)
    (in34 : PySem.W.findIn K (.ref C34) "__init__" = some (some (.ref f34)))
    (ti34 : PySem.W.typeIn K (.ref f34) = some (.type "function"))
    (l34 : K.lookup f34 = some ⟨oc34, od34, .func (PySem.W.fnOf "__init__" "InvalidWord.__init__" (defArgs s_c_InvalidWord_init) (defBody s_c_InvalidWord_init) (defScope s_c_InvalidWord_init) .none kV34 dc34 pm34 an34 cd34 ct34), sl34⟩) (c34 : PySem.W.codeIn K cd34 "InvalidWord.__init__" = true) (k34 : PySem.W.keepIn K (.ref f34) = true)
    (ca34 : PySem.W.exmAny K (.ref C34) [.ref b1, .ref b2] = some true)
    (nf34_0 : PySem.W.findIn K (.ref C34) "at" = some none)
    (nf34_1 : PySem.W.findIn K (.ref C34) "code" = some none)
    (a35 : PySem.W.nsIn K mainGlobals "InvalidFact" = some (some (.ref C35)))
    (ei35 : PySem.W.excInitIn K C35 [.type "ValueError", .type "Exception", .type "BaseException", .type "object"] "ValueError.__new__" = true)
    (eo35 : PySem.W.excOver K C35 [.type "ValueError", .type "Exception", .type "BaseException", .type "object"] = true)
    (sa35 : PySem.W.findIn K (.ref C35) "__setattr__" = some (some (.builtin "object.__setattr__")))
    (ex35 : PySem.W.subIn K (.ref C35) (.type "BaseException") = some true)
    (ty35 : PySem.W.typeIn K (.ref C35) = some (.type "type"))
    (kC35 : PySem.W.keepIn K (.ref C35) = true)
    (hd35 : PySem.W.hasDictIn K C35 = true)
    (ga35 : PySem.W.findIn K (.ref C35) "__getattribute__" = some (some (.builtin "BaseException.__getattribute__")))
    (gg35 : PySem.W.findIn K (.ref C35) "__getattr__" = some none)
    (in35 : PySem.W.findIn K (.ref C35) "__init__" = some (some (.ref f35)))
    (ti35 : PySem.W.typeIn K (.ref f35) = some (.type "function"))
    (l35 : K.lookup f35 = some ⟨oc35, od35, .func (PySem.W.fnOf "__init__" "InvalidFact.__init__" (defArgs s_c_InvalidFact_init) (defBody s_c_InvalidFact_init) (defScope s_c_InvalidFact_init) .none kV35 dc35 pm35 an35 cd35 ct35), sl35⟩) (c35 : PySem.W.codeIn K cd35 "InvalidFact.__init__" = true) (k35 : PySem.W.keepIn K (.ref f35) = true)
    (ca35 : PySem.W.exmAny K (.ref C35) [.ref b1, .ref b2] = some true)
    (nf35_0 : PySem.W.findIn K (.ref C35) "at" = some none)
    (nf35_1 : PySem.W.findIn K (.ref C35) "code" = some none)
    (a36 : PySem.W.nsIn K mainGlobals "DuplicateName" = some (some (.ref C36)))
    (ei36 : PySem.W.excInitIn K C36 [.type "ValueError", .type "Exception", .type "BaseException", .type "object"] "ValueError.__new__" = true)
    (eo36 : PySem.W.excOver K C36 [.type "ValueError", .type "Exception", .type "BaseException", .type "object"] = true)
    (sa36 : PySem.W.findIn K (.ref C36) "__setattr__" = some (some (.builtin "object.__setattr__")))
    (ex36 : PySem.W.subIn K (.ref C36) (.type "BaseException") = some true)
    (ty36 : PySem.W.typeIn K (.ref C36) = some (.type "type"))
    (kC36 : PySem.W.keepIn K (.ref C36) = true)
    (hd36 : PySem.W.hasDictIn K C36 = true)
    (ga36 : PySem.W.findIn K (.ref C36) "__getattribute__" = some (some (.builtin "BaseException.__getattribute__")))
    (gg36 : PySem.W.findIn K (.ref C36) "__getattr__" = some none)
    (in36 : PySem.W.findIn K (.ref C36) "__init__" = some (some (.ref f36)))
    (ti36 : PySem.W.typeIn K (.ref f36) = some (.type "function"))
    (l36 : K.lookup f36 = some ⟨oc36, od36, .func (PySem.W.fnOf "__init__" "DuplicateName.__init__" (defArgs s_c_DuplicateName_init) (defBody s_c_DuplicateName_init) (defScope s_c_DuplicateName_init) .none kV36 dc36 pm36 an36 cd36 ct36), sl36⟩) (c36 : PySem.W.codeIn K cd36 "DuplicateName.__init__" = true) (k36 : PySem.W.keepIn K (.ref f36) = true)
    (ca36 : PySem.W.exmAny K (.ref C36) [.ref b1, .ref b2] = some true)
    (nf36_0 : PySem.W.findIn K (.ref C36) "name" = some none)
    (nf36_1 : PySem.W.findIn K (.ref C36) "code" = some none)
    (a37 : PySem.W.nsIn K mainGlobals "TooMany" = some (some (.ref C37)))
    (ei37 : PySem.W.excInitIn K C37 [.type "ValueError", .type "Exception", .type "BaseException", .type "object"] "ValueError.__new__" = true)
    (eo37 : PySem.W.excOver K C37 [.type "ValueError", .type "Exception", .type "BaseException", .type "object"] = true)
    (sa37 : PySem.W.findIn K (.ref C37) "__setattr__" = some (some (.builtin "object.__setattr__")))
    (ex37 : PySem.W.subIn K (.ref C37) (.type "BaseException") = some true)
    (ty37 : PySem.W.typeIn K (.ref C37) = some (.type "type"))
    (kC37 : PySem.W.keepIn K (.ref C37) = true)
    (hd37 : PySem.W.hasDictIn K C37 = true)
    (ga37 : PySem.W.findIn K (.ref C37) "__getattribute__" = some (some (.builtin "BaseException.__getattribute__")))
    (gg37 : PySem.W.findIn K (.ref C37) "__getattr__" = some none)
    (in37 : PySem.W.findIn K (.ref C37) "__init__" = some (some (.ref f37)))
    (ti37 : PySem.W.typeIn K (.ref f37) = some (.type "function"))
    (l37 : K.lookup f37 = some ⟨oc37, od37, .func (PySem.W.fnOf "__init__" "TooMany.__init__" (defArgs s_c_TooMany_init) (defBody s_c_TooMany_init) (defScope s_c_TooMany_init) .none kV37 dc37 pm37 an37 cd37 ct37), sl37⟩) (c37 : PySem.W.codeIn K cd37 "TooMany.__init__" = true) (k37 : PySem.W.keepIn K (.ref f37) = true)
    (ca37 : PySem.W.exmAny K (.ref C37) [.ref b1, .ref b2] = some true)
    (nf37_0 : PySem.W.findIn K (.ref C37) "most" = some none)
    (nf37_1 : PySem.W.findIn K (.ref C37) "code" = some none)
    (a38 : PySem.W.nsIn K mainGlobals "UnknownFind" = some (some (.ref C38)))
    (ei38 : PySem.W.excInitIn K C38 [.type "LookupError", .type "Exception", .type "BaseException", .type "object"] "LookupError.__new__" = true)
    (eo38 : PySem.W.excOver K C38 [.type "LookupError", .type "Exception", .type "BaseException", .type "object"] = true)
    (sa38 : PySem.W.findIn K (.ref C38) "__setattr__" = some (some (.builtin "object.__setattr__")))
    (ex38 : PySem.W.subIn K (.ref C38) (.type "BaseException") = some true)
    (ty38 : PySem.W.typeIn K (.ref C38) = some (.type "type"))
    (kC38 : PySem.W.keepIn K (.ref C38) = true)
    (hd38 : PySem.W.hasDictIn K C38 = true)
    (ga38 : PySem.W.findIn K (.ref C38) "__getattribute__" = some (some (.builtin "BaseException.__getattribute__")))
    (gg38 : PySem.W.findIn K (.ref C38) "__getattr__" = some none)
    (in38 : PySem.W.findIn K (.ref C38) "__init__" = some (some (.ref f38)))
    (ti38 : PySem.W.typeIn K (.ref f38) = some (.type "function"))
    (l38 : K.lookup f38 = some ⟨oc38, od38, .func (PySem.W.fnOf "__init__" "UnknownFind.__init__" (defArgs s_c_UnknownFind_init) (defBody s_c_UnknownFind_init) (defScope s_c_UnknownFind_init) .none kV38 dc38 pm38 an38 cd38 ct38), sl38⟩) (c38 : PySem.W.codeIn K cd38 "UnknownFind.__init__" = true) (k38 : PySem.W.keepIn K (.ref f38) = true)
    (ca38 : PySem.W.exmAny K (.ref C38) [.ref b1, .ref b2] = some true)
    (nf38_0 : PySem.W.findIn K (.ref C38) "name" = some none)
    (nf38_1 : PySem.W.findIn K (.ref C38) "code" = some none)
    (aCB : PySem.W.nsIn K mainGlobals "Book" = some (some (.ref CB)))
    (pgB : PySem.W.plainGet K CB Str.empty = true)
    (hdB : PySem.W.hasDictIn K CB = true)
    (poB : PySem.W.plainOver K CB = true)
    (saB : PySem.W.findIn K (.ref CB) "__setattr__" = some (some (.builtin "object.__setattr__")))
    (mkB : PySem.W.makesIn K CB = true)
    (inB : PySem.W.findIn K (.ref CB) "__init__" = some (some (.ref fI)))
    (fnB : PySem.W.isFn K (.ref fI) = true)
    (kpB : PySem.W.keepIn K (.ref CB) = true)
    (na_finds : PySem.W.findIn K (.ref CB) "_finds" = some none)
    (na_words : PySem.W.findIn K (.ref CB) "_words" = some none)
    (l39 : K.lookup fI = some ⟨oc39, od39, .func (PySem.W.fnOf "__init__" "Book.__init__" (defArgs s_c_Book_init) (defBody s_c_Book_init) (defScope s_c_Book_init) (.ref T39) kV39 dc39 pm39 an39 cd39 ct39), sl39⟩) (c39 : PySem.W.codeIn K cd39 "Book.__init__" = true) (k39 : PySem.W.keepIn K (.ref fI) = true)
    (lT39 : K.lookup T39 = some ⟨.type "tuple", dT39, .seq iT39.toArray nT39, sT39⟩) (vT39 : Vals [V.ref t39] iT39) (lz39 : K.lookup t39 = some ⟨.type "tuple", d039, .seq ([] : List Value).toArray n039, s039⟩)
    (me40 : PySem.W.findIn K (.ref CB) "finds" = some (some (.ref f40))) (mf40 : PySem.W.isFn K (.ref f40) = true) (l40 : K.lookup f40 = some ⟨oc40, od40, .func (PySem.W.fnOf "finds" "Book.finds" (defArgs s_c_Book_finds) (defBody s_c_Book_finds) (defScope s_c_Book_finds) .none kV40 dc40 pm40 an40 cd40 ct40), sl40⟩) (c40 : PySem.W.codeIn K cd40 "Book.finds" = true) (k40 : PySem.W.keepIn K (.ref f40) = true)
    (xL : PySem.W.nsIn K mainGlobals "_LETTERS" = some (some (.str "abcdefghijklmnopqrstuvwxyz" tL)))
    (xM : PySem.W.nsIn K mainGlobals "_MOST_LETTERS" = some (some (.int 6 tM)))
    (xgMF : PySem.W.nsIn K mainGlobals "MOST_FINDS" = some (some (.int 12 tgMF)))
    (xMN : PySem.W.nsIn K mainGlobals "_MANY_NAMES" = some (some (.ref dMN))) (yMN : K.lookup dMN = some ⟨.type "dict", none, .dict eMN.toArray nMN, #[]⟩) (wMN : (dMN == sysModules) = false) (uMN : PySem.W.KeysLit w.params eMN) (vMN : Paired (fun (e : DictEntry) (p : Str × Value) => (∃ t, e.key = .str p.1 t) ∧ e.val = p.2) eMN [("before", .int 2 t1MN), ("first", .int 1 t2MN), ("last", .int 1 t3MN)])
    (xgMX : PySem.W.nsIn K mainGlobals "MOST_FACTS" = some (some (.int 30 tgMX)))
    (xgMW : PySem.W.nsIn K mainGlobals "MOST_WORDS" = some (some (.int 40 tgMW))) :
    LamX.LawAtS l w K CX0 15 63 "_law_script" mg fa h := by
  have e := hfa.symm.trans (PySem.W.mg_of X G a32)
  cases e
  have Z : Zs mg := ⟨PySem.W.mg_none_of X G z_len, PySem.W.mg_none_of X G z_range, PySem.W.mg_none_of X G z_int, PySem.W.mg_none_of X G z_abs, PySem.W.mg_none_of X G z_isinstance, PySem.W.mg_none_of X G z_all, PySem.W.mg_none_of X G z_any, PySem.W.mg_none_of X G z_sorted, PySem.W.mg_none_of X G z_set, PySem.W.mg_none_of X G z_list, PySem.W.mg_none_of X G z_tuple, PySem.W.mg_none_of X G z_str, PySem.W.mg_none_of X G z_bool, PySem.W.mg_none_of X G z_enumerate, PySem.W.mg_none_of X G z_min, PySem.W.mg_none_of X G z_max⟩
  have F_law := fun_mk (x := "law") (qual := "law") (st := s_p_law) l32 c32 k32
  have A_p_copied : At K mg "copied" s_p_copied ["value"] := at_mk X G a0 l0 c0 k0 fun _ _ _ _ _ _ us hl => match us, hl with | [_], _ => rfl
  have A_p_is_name : At K mg "is_name" s_p_is_name ["value"] := at_mk X G a1 l1 c1 k1 fun _ _ _ _ _ _ us hl => match us, hl with | [_], _ => rfl
  have A_p_are_names : At K mg "are_names" s_p_are_names ["values"] := at_mk X G a2 l2 c2 k2 fun _ _ _ _ _ _ us hl => match us, hl with | [_], _ => rfl
  have A_p_is_listed : At K mg "is_listed" s_p_is_listed ["value"] := at_mk X G a3 l3 c3 k3 fun _ _ _ _ _ _ us hl => match us, hl with | [_], _ => rfl
  have A_p_check_finds : At K mg "check_finds" s_p_check_finds ["finds"] := at_mk X G a4 l4 c4 k4 fun _ _ _ _ _ _ us hl => match us, hl with | [_], _ => rfl
  have A_p_check_different : At K mg "check_different" s_p_check_different ["names"] := at_mk X G a5 l5 c5 k5 fun _ _ _ _ _ _ us hl => match us, hl with | [_], _ => rfl
  have A_p_is_fact : At K mg "is_fact" s_p_is_fact ["value"] := at_mk X G a6 l6 c6 k6 fun _ _ _ _ _ _ us hl => match us, hl with | [_], _ => rfl
  have A_p_is_marked_fact : At K mg "is_marked_fact" s_p_is_marked_fact ["value"] := at_mk X G a7 l7 c7 k7 fun _ _ _ _ _ _ us hl => match us, hl with | [_], _ => rfl
  have A_p_names_in : At K mg "names_in" s_p_names_in ["fact"] := at_mk X G a8 l8 c8 k8 fun _ _ _ _ _ _ us hl => match us, hl with | [_], _ => rfl
  have A_p_check_facts : At K mg "check_facts" s_p_check_facts ["finds", "facts"] := at_mk X G a9 l9 c9 k9 fun _ _ _ _ _ _ us hl => match us, hl with | [_, _], _ => rfl
  have A_p_is_word_of : At K mg "_is_word_of" s_p_is_word_of ["finds", "value"] := at_mk X G a10 l10 c10 k10 fun _ _ _ _ _ _ us hl => match us, hl with | [_, _], _ => rfl
  have A_p_first_fault : At K mg "first_fault" s_p_first_fault ["book", "facts", "entries"] := at_mk X G a11 l11 c11 k11 fun _ _ _ _ _ _ us hl => match us, hl with | [_, _, _], _ => rfl
  have A_p_shows : At K mg "shows" s_p_shows ["book", "facts", "entries", "statement"] := at_mk X G a12 l12 c12 k12 fun _ _ _ _ _ _ us hl => match us, hl with | [_, _, _, _], _ => rfl
  have A_p_is_entry : At K mg "_is_entry" s_p_is_entry ["value", "at"] := at_mk X G a13 l13 c13 k13 fun _ _ _ _ _ _ us hl => match us, hl with | [_, _], _ => rfl
  have A_p_is_right : At K mg "_is_right" s_p_is_right ["book", "facts", "entries", "entry"] := at_mk X G a14 l14 c14 k14 fun _ _ _ _ _ _ us hl => match us, hl with | [_, _, _, _], _ => rfl
  have A_l_start : At K mg "_law_start" s_l_start ["_law_script", "_law_own"] := at_mk X G a15 l15 c15 k15 fun _ _ _ _ _ _ us hl => match us, hl with | [_, _], _ => rfl
  have A_l_draw : At K mg "_law_draw" s_l_draw ["_law_state", "_law_many"] := at_mk X G a16 l16 c16 k16 fun _ _ _ _ _ _ us hl => match us, hl with | [_, _], _ => rfl
  have A_l_pick : At K mg "_law_pick" s_l_pick ["_law_state", "_law_pool"] := at_mk X G a17 l17 c17 k17 fun _ _ _ _ _ _ us hl => match us, hl with | [_, _], _ => rfl
  have A_l_shuffle : At K mg "_law_shuffle" s_l_shuffle ["_law_state", "_law_pool"] := at_mk X G a18 l18 c18 k18 fun _ _ _ _ _ _ us hl => match us, hl with | [_, _], _ => rfl
  have A_l_letters : At K mg "_law_letters" s_l_letters [] := at_mk X G a19 l19 c19 k19 fun _ _ _ _ _ _ us hl => match us, hl with | [], _ => rfl
  have A_l_word : At K mg "_law_word" s_l_word ["_law_state", "_law_longest"] := at_mk X G a20 l20 c20 k20 fun _ _ _ _ _ _ us hl => match us, hl with | [_, _], _ => rfl
  have A_l_names : At K mg "_law_names" s_l_names ["_law_state", "_law_many"] := at_mk X G a21 l21 c21 k21 fun _ _ _ _ _ _ us hl => match us, hl with | [_, _], _ => rfl
  have A_l_odd : At K mg "_law_odd" s_l_odd ["_law_state"] := at_mk X G a22 l22 c22 k22 fun _ _ _ _ _ _ us hl => match us, hl with | [_], _ => rfl
  have A_l_same : At K mg "_law_same" s_l_same ["_law_got", "_law_due"] := at_mk X G a23 l23 c23 k23 fun _ _ _ _ _ _ us hl => match us, hl with | [_, _], _ => rfl
  have A_l_fields : At K mg "_law_fields" s_l_fields ["_law_e"] := at_mk X G a24 l24 c24 k24 fun _ _ _ _ _ _ us hl => match us, hl with | [_], _ => rfl
  have A_l_try : At K mg "_law_try" s_l_try ["_law_ask"] := at_mk X G a25 l25 c25 k25 fun _ _ _ _ _ _ us hl => match us, hl with | [_], _ => rfl
  have A_l_is_name : At K mg "_law_is_name" s_l_is_name ["_law_x"] := at_mk X G a26 l26 c26 k26 fun _ _ _ _ _ _ us hl => match us, hl with | [_], _ => rfl
  have A_l_is_fact : At K mg "_law_is_fact" s_l_is_fact ["_law_x"] := at_mk X G a27 l27 c27 k27 fun _ _ _ _ _ _ us hl => match us, hl with | [_], _ => rfl
  have A_l_is_marked : At K mg "_law_is_marked" s_l_is_marked ["_law_x"] := at_mk X G a28 l28 c28 k28 fun _ _ _ _ _ _ us hl => match us, hl with | [_], _ => rfl
  have A_l_fact : At K mg "_law_fact" s_l_fact ["_law_state", "_law_pool"] := at_mk X G a29 l29 c29 k29 fun _ _ _ _ _ _ us hl => match us, hl with | [_, _], _ => rfl
  have A_l_spoilt : At K mg "_law_spoilt" s_l_spoilt ["_law_state", "_law_claims", "_law_pool", "_law_labels"] := at_mk X G a30 l30 c30 k30 fun _ _ _ _ _ _ us hl => match us, hl with | [_, _, _, _], _ => rfl
  have A_l_facts_due : At K mg "_law_facts_due" s_l_facts_due ["_law_pool", "_law_x"] := at_mk X G a31 l31 c31 k31 fun _ _ _ _ _ _ us hl => match us, hl with | [_, _], _ => rfl
  have hm1 : mg "FindError" = some (.ref b1) := PySem.W.mg_of X G ab1
  have hm2 : mg "Missing" = some (.ref b2) := PySem.W.mg_of X G ab2
  have F_c_InvalidFind_init := fun_mk (x := "__init__") (qual := "InvalidFind.__init__") (st := s_c_InvalidFind_init) l33 c33 k33
  have E_c_InvalidFind_init : ErrC K mg "InvalidFind" "InvalidFind.__init__" s_c_InvalidFind_init ["self", "at"] ["at", "code"] C33 f33 _ := ⟨PySem.W.mg_of X G a33, ⟨⟨_, _, _, _, PySem.F.excBase_ValueError, PySem.F.store_ValueError, ei33, eo33⟩, sa33, ex33, ty33, kC33, hd33⟩, ⟨ga33, gg33, ex33, hd33⟩, (fun f hf => by
      simp only [List.mem_cons, List.not_mem_nil, or_false] at hf
      rcases hf with rfl | rfl
      · exact nf33_0
      · exact nf33_1), in33, ti33, F_c_InvalidFind_init, F_c_InvalidFind_init.binds (ps := ["self", "at"]) (fun _ _ _ _ _ _ us hl => match us, hl with | [_, _], _ => rfl), fun c1 c2 h1 h2 => by
    cases h1.symm.trans hm1
    cases h2.symm.trans hm2
    exact ca33⟩
  have F_c_InvalidWord_init := fun_mk (x := "__init__") (qual := "InvalidWord.__init__") (st := s_c_InvalidWord_init) l34 c34 k34
  have E_c_InvalidWord_init : ErrC K mg "InvalidWord" "InvalidWord.__init__" s_c_InvalidWord_init ["self", "at"] ["at", "code"] C34 f34 _ := ⟨PySem.W.mg_of X G a34, ⟨⟨_, _, _, _, PySem.F.excBase_ValueError, PySem.F.store_ValueError, ei34, eo34⟩, sa34, ex34, ty34, kC34, hd34⟩, ⟨ga34, gg34, ex34, hd34⟩, (fun f hf => by
      simp only [List.mem_cons, List.not_mem_nil, or_false] at hf
      rcases hf with rfl | rfl
      · exact nf34_0
      · exact nf34_1), in34, ti34, F_c_InvalidWord_init, F_c_InvalidWord_init.binds (ps := ["self", "at"]) (fun _ _ _ _ _ _ us hl => match us, hl with | [_, _], _ => rfl), fun c1 c2 h1 h2 => by
    cases h1.symm.trans hm1
    cases h2.symm.trans hm2
    exact ca34⟩
  have F_c_InvalidFact_init := fun_mk (x := "__init__") (qual := "InvalidFact.__init__") (st := s_c_InvalidFact_init) l35 c35 k35
  have E_c_InvalidFact_init : ErrC K mg "InvalidFact" "InvalidFact.__init__" s_c_InvalidFact_init ["self", "at"] ["at", "code"] C35 f35 _ := ⟨PySem.W.mg_of X G a35, ⟨⟨_, _, _, _, PySem.F.excBase_ValueError, PySem.F.store_ValueError, ei35, eo35⟩, sa35, ex35, ty35, kC35, hd35⟩, ⟨ga35, gg35, ex35, hd35⟩, (fun f hf => by
      simp only [List.mem_cons, List.not_mem_nil, or_false] at hf
      rcases hf with rfl | rfl
      · exact nf35_0
      · exact nf35_1), in35, ti35, F_c_InvalidFact_init, F_c_InvalidFact_init.binds (ps := ["self", "at"]) (fun _ _ _ _ _ _ us hl => match us, hl with | [_, _], _ => rfl), fun c1 c2 h1 h2 => by
    cases h1.symm.trans hm1
    cases h2.symm.trans hm2
    exact ca35⟩
  have F_c_DuplicateName_init := fun_mk (x := "__init__") (qual := "DuplicateName.__init__") (st := s_c_DuplicateName_init) l36 c36 k36
  have E_c_DuplicateName_init : ErrC K mg "DuplicateName" "DuplicateName.__init__" s_c_DuplicateName_init ["self", "name"] ["name", "code"] C36 f36 _ := ⟨PySem.W.mg_of X G a36, ⟨⟨_, _, _, _, PySem.F.excBase_ValueError, PySem.F.store_ValueError, ei36, eo36⟩, sa36, ex36, ty36, kC36, hd36⟩, ⟨ga36, gg36, ex36, hd36⟩, (fun f hf => by
      simp only [List.mem_cons, List.not_mem_nil, or_false] at hf
      rcases hf with rfl | rfl
      · exact nf36_0
      · exact nf36_1), in36, ti36, F_c_DuplicateName_init, F_c_DuplicateName_init.binds (ps := ["self", "name"]) (fun _ _ _ _ _ _ us hl => match us, hl with | [_, _], _ => rfl), fun c1 c2 h1 h2 => by
    cases h1.symm.trans hm1
    cases h2.symm.trans hm2
    exact ca36⟩
  have F_c_TooMany_init := fun_mk (x := "__init__") (qual := "TooMany.__init__") (st := s_c_TooMany_init) l37 c37 k37
  have E_c_TooMany_init : ErrC K mg "TooMany" "TooMany.__init__" s_c_TooMany_init ["self", "most"] ["most", "code"] C37 f37 _ := ⟨PySem.W.mg_of X G a37, ⟨⟨_, _, _, _, PySem.F.excBase_ValueError, PySem.F.store_ValueError, ei37, eo37⟩, sa37, ex37, ty37, kC37, hd37⟩, ⟨ga37, gg37, ex37, hd37⟩, (fun f hf => by
      simp only [List.mem_cons, List.not_mem_nil, or_false] at hf
      rcases hf with rfl | rfl
      · exact nf37_0
      · exact nf37_1), in37, ti37, F_c_TooMany_init, F_c_TooMany_init.binds (ps := ["self", "most"]) (fun _ _ _ _ _ _ us hl => match us, hl with | [_, _], _ => rfl), fun c1 c2 h1 h2 => by
    cases h1.symm.trans hm1
    cases h2.symm.trans hm2
    exact ca37⟩
  have F_c_UnknownFind_init := fun_mk (x := "__init__") (qual := "UnknownFind.__init__") (st := s_c_UnknownFind_init) l38 c38 k38
  have E_c_UnknownFind_init : ErrC K mg "UnknownFind" "UnknownFind.__init__" s_c_UnknownFind_init ["self", "name"] ["name", "code"] C38 f38 _ := ⟨PySem.W.mg_of X G a38, ⟨⟨_, _, _, _, PySem.F.excBase_LookupError, PySem.F.store_LookupError, ei38, eo38⟩, sa38, ex38, ty38, kC38, hd38⟩, ⟨ga38, gg38, ex38, hd38⟩, (fun f hf => by
      simp only [List.mem_cons, List.not_mem_nil, or_false] at hf
      rcases hf with rfl | rfl
      · exact nf38_0
      · exact nf38_1), in38, ti38, F_c_UnknownFind_init, F_c_UnknownFind_init.binds (ps := ["self", "name"]) (fun _ _ _ _ _ _ us hl => match us, hl with | [_, _], _ => rfl), fun c1 c2 h1 h2 => by
    cases h1.symm.trans hm1
    cases h2.symm.trans hm2
    exact ca38⟩
  have B_Book : ClsF K mg CB "Book" ["_finds", "_words"] := ⟨PySem.W.mg_of X G aCB, ⟨pgB, hdB, poB, saB⟩, fun f hf => by
      simp only [List.mem_cons, List.not_mem_nil, or_false] at hf
      rcases hf with rfl | rfl
      · exact na_finds
      · exact na_words⟩
  have F_c_Book_init : FunD K "__init__" "Book.__init__" (defArgs s_c_Book_init) (defBody s_c_Book_init) (defScope s_c_Book_init) [.ref t39] [] fI _ := ⟨⟨_, _, _, _, _, _, _, _, _, _, rfl, l39, c39, .inr ⟨List.cons_ne_nil _ _, T39, _, iT39, nT39, rfl, lT39, rfl, vT39⟩, .inl rfl⟩, k39⟩
  obtain ⟨ds_c_Book_init, vd_c_Book_init, bd_c_Book_init⟩ := FunD.binds1 (ps := ["self", "finds", "words"]) F_c_Book_init 2 0 (List.cons_ne_nil _ _) rfl fun T kV doc pm an cdv ct us its hl hi => match us, hl, its, hi with | [_, _], _, [_], _ => ⟨_, rfl, rfl⟩
  have dE_c_Book_init : dEmpty K [.ref t39] := ⟨t39, rfl, fun H => ⟨.inr ⟨_, _, n039, lz39, rfl, rfl, by decide, .nil⟩, .kTuple lz39 rfl⟩⟩
  have F_c_Book_finds : FunD K "finds" "Book.finds" (defArgs s_c_Book_finds) (defBody s_c_Book_finds) (defScope s_c_Book_finds) [] [] f40 _ := ⟨⟨_, _, _, _, _, _, _, _, _, _, rfl, l40, c40, .inl ⟨rfl, rfl⟩, .inl rfl⟩, k40⟩
  have bd_c_Book_finds : Binds K _ ["self"] [] := (fun_mk (x := "finds") (qual := "Book.finds") (st := s_c_Book_finds) l40 c40 k40).binds (ps := ["self"]) (fun _ _ _ _ _ _ us hl => match us, hl with | [_], _ => rfl)
  have gL : ∃ t, mg "_LETTERS" = some (.str abc t) := ⟨_, PySem.W.mg_of X G xL⟩
  have gM : ∃ t, mg "_MOST_LETTERS" = some (.int 6 t) := ⟨_, PySem.W.mg_of X G xM⟩
  have gMF : ∃ t, mg "MOST_FINDS" = some (.int 12 t) := ⟨_, PySem.W.mg_of X G xgMF⟩
  have gMN : ∃ (d : Addr) (es : Array DictEntry) (n : Nat) (kvs : List (Str × Value)), mg "_MANY_NAMES" = some (.ref d) ∧ KDict K w d es n ∧ (∀ z, PySem.W.nsIn K d z = some (lookE kvs z)) ∧ ManyOk kvs := ⟨dMN, eMN.toArray, nMN, _, PySem.W.mg_of X G xMN, ⟨yMN, by simpa using uMN, wMN⟩, ns_of eMN _ yMN vMN, many_mk t1MN t2MN t3MN⟩
  have gMX : ∃ t, mg "MOST_FACTS" = some (.int 30 t) := ⟨_, PySem.W.mg_of X G xgMX⟩
  have gMW : ∃ t, mg "MOST_WORDS" = some (.int 40 t) := ⟨_, PySem.W.mg_of X G xgMW⟩
  refine ⟨PySem.W.fnOf "law" "law" (defArgs s_p_law) (defBody s_p_law) (defScope s_p_law) .none kV32 dc32 pm32 an32 (.ref cc) ct32, [(cc, Pt)], spLawT K Pt, fun p hp => ?_, fun p hp => ?_, fun p hp => ?_, fun s u => .of_eq (by rfl), fun H a ns hl _ hT hS => ⟨a, ns, rfl, hS, hl, hT _ (List.mem_singleton.mpr rfl), fun _ => rfl⟩, fun base _ _ hTB => ?_⟩
  · rw [List.mem_singleton.mp hp]
    exact own cc Pt _ _ _ _ _ _ l32 rfl rfl lc pc
  · rw [List.mem_singleton.mp hp]
    exact np
  · rw [List.mem_singleton.mp hp]
    exact PySem.W.codeHd_of_K X hcd
  have TB := hTB _ (List.mem_singleton.mpr rfl)
  have H_l_start := has_l_start (P := l.prog) (w := w) (base := base) Z A_l_start
  have H_l_draw := has_l_draw (P := l.prog) (w := w) (base := base) Z A_l_draw
  have H_l_pick := has_l_pick (P := l.prog) (w := w) (base := base) Z A_l_pick (H_l_draw)
  have H_l_letters := has_l_letters (P := l.prog) (w := w) (base := base) Z A_l_letters
  have H_l_word := has_l_word (P := l.prog) (w := w) (base := base) Z A_l_word (H_l_draw) (H_l_letters)
  have H_l_shuffle := has_l_shuffle (P := l.prog) (w := w) (base := base) Z A_l_shuffle (H_l_draw)
  have H_l_names := has_l_names (P := l.prog) (w := w) (base := base) Z A_l_names (H_l_draw) (H_l_pick) (H_l_letters) (H_l_word) (H_l_shuffle)
  have H_l_odd := has_l_odd (P := l.prog) (w := w) (base := base) Z A_l_odd (H_l_pick)
  have H_l_same := has_l_same (P := l.prog) (w := w) (base := base) Z A_l_same
  have H_l_fact := has_l_fact (P := l.prog) (w := w) (base := base) Z A_l_fact (H_l_draw) (H_l_pick)
  have H_l_spoilt := has_l_spoilt (P := l.prog) (w := w) (base := base) Z A_l_spoilt (H_l_draw) (H_l_pick) (H_l_odd) (H_l_fact)
  have H_l_is_name := fun n : Nat => has_l_is_name (P := l.prog) (w := w) (base := base) n Z A_l_is_name (H_l_letters)
  have H_l_is_fact := has_l_is_fact (P := l.prog) (w := w) (base := base) Z A_l_is_fact (H_l_is_name 4)
  have H_l_is_marked := has_l_is_marked (P := l.prog) (w := w) (base := base) Z A_l_is_marked (H_l_is_name 5) (H_l_is_fact)
  have H_l_facts_due := has_l_facts_due (P := l.prog) (w := w) (base := base) Z A_l_facts_due (H_l_is_marked)
  have H_p_is_listed := has_p_is_listed (P := l.prog) (w := w) (base := base) Z A_p_is_listed
  have H_p_is_name := fun n : Nat => has_p_is_name (P := l.prog) (w := w) (base := base) n Z gL gM A_p_is_name
  have H_p_are_names := has_p_are_names (P := l.prog) (w := w) (base := base) Z A_p_are_names (H_p_is_name 5)
  have H_p_is_fact := has_p_is_fact (P := l.prog) (w := w) (base := base) Z gMN A_p_is_fact (H_p_are_names)
  have H_p_is_marked_fact := has_p_is_marked_fact (P := l.prog) (w := w) (base := base) Z A_p_is_marked_fact (H_p_is_name 5) (H_p_is_fact)
  have H_p_names_in := has_p_names_in (P := l.prog) (w := w) (base := base) Z A_p_names_in
  have H_p_copied := has_p_copied (P := l.prog) (w := w) (base := base) Z A_p_copied
  have H_c_DuplicateName_init : HasE l.prog w K mg base "DuplicateName" "DuplicateName.__init__" s_c_DuplicateName_init ["self", "name"] ["name", "code"] 7 (spInit1 K "DuplicateName" "name" 6) := ⟨_, _, _, E_c_DuplicateName_init, has_c_DuplicateName_init (P := l.prog) (w := w) (base := base) Z F_c_DuplicateName_init (H_p_copied)⟩
  have H_p_check_different := has_p_check_different (P := l.prog) (w := w) (base := base) Z A_p_check_different (H_c_DuplicateName_init)
  have H_c_InvalidFact_init : HasE l.prog w K mg base "InvalidFact" "InvalidFact.__init__" s_c_InvalidFact_init ["self", "at"] ["at", "code"] 7 (spInit1 K "InvalidFact" "at" 6) := ⟨_, _, _, E_c_InvalidFact_init, has_c_InvalidFact_init (P := l.prog) (w := w) (base := base) Z F_c_InvalidFact_init (H_p_copied)⟩
  have H_c_TooMany_init : HasE l.prog w K mg base "TooMany" "TooMany.__init__" s_c_TooMany_init ["self", "most"] ["most", "code"] 7 (spInit1 K "TooMany" "most" 6) := ⟨_, _, _, E_c_TooMany_init, has_c_TooMany_init (P := l.prog) (w := w) (base := base) Z F_c_TooMany_init (H_p_copied)⟩
  have H_c_UnknownFind_init : HasE l.prog w K mg base "UnknownFind" "UnknownFind.__init__" s_c_UnknownFind_init ["self", "name"] ["name", "code"] 7 (spInit1 K "UnknownFind" "name" 6) := ⟨_, _, _, E_c_UnknownFind_init, has_c_UnknownFind_init (P := l.prog) (w := w) (base := base) Z F_c_UnknownFind_init (H_p_copied)⟩
  have H_p_check_facts := has_p_check_facts (P := l.prog) (w := w) (base := base) Z gMX A_p_check_facts (H_p_is_listed) (H_p_is_marked_fact) (H_p_names_in) (H_p_check_different) (H_c_InvalidFact_init) (H_c_TooMany_init) (H_c_UnknownFind_init)
  have H_p_is_entry := has_p_is_entry (P := l.prog) (w := w) (base := base) Z A_p_is_entry
  have H_p_is_right := has_p_is_right (P := l.prog) (w := w) (base := base) Z A_p_is_right
  have H_c_Book_finds : HasM l.prog w K mg base CB "finds" 1 ["self"] (spBFinds K CB) := ⟨f40, _, ⟨me40, mf40, k40⟩, has_c_Book_finds (P := l.prog) (w := w) (base := base) Z B_Book F_c_Book_finds, bd_c_Book_finds⟩
  have H_p_first_fault := has_p_first_fault (P := l.prog) (w := w) (base := base) Z B_Book A_p_first_fault (H_p_check_facts) (H_p_is_listed) (H_p_is_entry) (H_p_is_right) (H_c_Book_finds)
  have H_p_shows := has_p_shows (P := l.prog) (w := w) (base := base) Z B_Book A_p_shows (H_p_first_fault)
  have H_c_InvalidFind_init : HasE l.prog w K mg base "InvalidFind" "InvalidFind.__init__" s_c_InvalidFind_init ["self", "at"] ["at", "code"] 7 (spInit1 K "InvalidFind" "at" 6) := ⟨_, _, _, E_c_InvalidFind_init, has_c_InvalidFind_init (P := l.prog) (w := w) (base := base) Z F_c_InvalidFind_init (H_p_copied)⟩
  have H_p_check_finds := has_p_check_finds (P := l.prog) (w := w) (base := base) Z gMF A_p_check_finds (H_p_is_listed) (H_p_is_name 5) (H_c_InvalidFind_init) (H_c_TooMany_init)
  have H_c_InvalidWord_init : HasE l.prog w K mg base "InvalidWord" "InvalidWord.__init__" s_c_InvalidWord_init ["self", "at"] ["at", "code"] 7 (spInit1 K "InvalidWord" "at" 6) := ⟨_, _, _, E_c_InvalidWord_init, has_c_InvalidWord_init (P := l.prog) (w := w) (base := base) Z F_c_InvalidWord_init (H_p_copied)⟩
  have H_p_is_word_of := has_p_is_word_of (P := l.prog) (w := w) (base := base) Z A_p_is_word_of
  have H_c_Book_init : HasI l.prog w K mg base CB 10 ["self", "finds", "words"] (dEmpty K) (spBInit K CB) := ⟨fI, _, ds_c_Book_init, _, ⟨mkB, inB, fnB, kpB⟩, has_c_Book_init (P := l.prog) (w := w) (base := base) Z gMW B_Book F_c_Book_init (H_p_check_finds) (H_p_is_listed) (H_c_InvalidWord_init) (H_c_TooMany_init) (H_p_is_word_of) (H_p_check_different), bd_c_Book_init, vd_c_Book_init, dE_c_Book_init⟩
  have H_l_fields := has_l_fields (P := l.prog) (w := w) (base := base) Z A_l_fields
  exact has_p_law (P := l.prog) (w := w) (base := base) Z B_Book F_law rfl TB hm1 hm2 (H_l_start) (H_l_draw) (H_l_pick) (H_l_names) (H_l_odd) (H_l_same) (H_l_fact) (H_l_spoilt) (H_l_facts_due) (H_p_check_facts) (H_p_first_fault) (H_p_shows) (H_c_Book_init) (H_l_fields) A_l_try
theorem walk {l : PySem.W.OpenLaw} {q : Program} {loose : List Str} {XP : (Str → Option Value) → Heap → Prop} {YP : World → Heap → Prop} {d : DefRec} {K : Params → PySem.W.Frag} (hn : l.most = some 63) (hdf : d.params.defaults = []) (hrec : ((recsOf q).any fun e => e.name == d.name) = true)
    (hY : ∀ (w : World) (h : Heap), YP w h → (K w.params).In h)
    (F : ∀ (w : World) (mg : Str → Option Value) (fa : Addr) (h : Heap), (K w.params).In h → h.Ns mainGlobals mg → mg d.name = some (.ref fa) → LamX.OwnTab (K w.params) fa h → LamX.LawAtS l w (K w.params) CX0 15 63 "_law_script" mg fa h) :
    PySem.W.WalkO q loose XP YP l.row.toRowW d [] (fun f vs => PySem.call f vs) :=
  LamX.walk_ofOwn (n := 63) (k := 15) (x := "_law_script") (CX := fun _ => CX0) hn (by decide) hdf ⟨rfl, by decide, by decide⟩ hrec hY (fun w mg fa h _ kx g hm o => F w mg fa h kx g hm o) fun _ _ _ _ _ z => z
end Th
open PySem PySem.W PyProof.Rows
set_option maxRecDepth 100000 in
set_option maxHeartbeats 0 in
theorem PySem.Challenge.cw_threeorders_k05_whole_facts_checked_holds : PySem.Challenge.rw_threeorders_k05_whole_facts_checked.Holds := by
  w_on; o_law; k_head; (case hw => w_witness2)
  k_fill
  refine Th.walk (l := PySem.Challenge.rw_threeorders_k05_whole_facts_checked) rfl rfl (by decide +kernel) (fun w h Y => Y.1) ?F
  case F =>
    intro w mg fa h KX G hmg own
    refine' Th.all_mk KX G own hmg ?a0 ?l0 ?c0 ?k0 ?a1 ?l1 ?c1 ?k1 ?a2 ?l2 ?c2 ?k2 ?a3 ?l3 ?c3 ?k3 ?a4 ?l4 ?c4 ?k4 ?a5 ?l5 ?c5 ?k5 ?a6 ?l6 ?c6 ?k6 ?a7 ?l7 ?c7 ?k7 ?a8 ?l8 ?c8 ?k8 ?a9 ?l9 ?c9 ?k9 ?a10 ?l10 ?c10 ?k10 ?a11 ?l11 ?c11 ?k11 ?a12 ?l12 ?c12 ?k12 ?a13 ?l13 ?c13 ?k13 ?a14 ?l14 ?c14 ?k14 ?a15 ?l15 ?c15 ?k15 ?a16 ?l16 ?c16 ?k16 ?a17 ?l17 ?c17 ?k17 ?a18 ?l18 ?c18 ?k18 ?a19 ?l19 ?c19 ?k19 ?a20 ?l20 ?c20 ?k20 ?a21 ?l21 ?c21 ?k21 ?a22 ?l22 ?c22 ?k22 ?a23 ?l23 ?c23 ?k23 ?a24 ?l24 ?c24 ?k24 ?a25 ?l25 ?c25 ?k25 ?a26 ?l26 ?c26 ?k26 ?a27 ?l27 ?c27 ?k27 ?a28 ?l28 ?c28 ?k28 ?a29 ?l29 ?c29 ?k29 ?a30 ?l30 ?c30 ?k30 ?a31 ?l31 ?c31 ?k31 ?a32 ?l32 ?c32 ?k32 ?lc ?pc ?np ?hcd ?z_len ?z_range ?z_int ?z_abs ?z_isinstance ?z_all ?z_any ?z_sorted ?z_set ?z_list ?z_tuple ?z_str ?z_bool ?z_enumerate ?z_min ?z_max ?ab1 ?ab2 ?a33 ?ei33 ?eo33 ?sa33 ?ex33 ?ty33 ?kC33 ?hd33 ?ga33 ?gg33 ?in33 ?ti33 ?l33 ?c33 ?k33 ?ca33 ?nf33_0 ?nf33_1 ?a34 ?ei34 ?eo34 ?sa34 ?ex34 ?ty34 ?kC34 ?hd34 ?ga34 ?gg34 ?in34 ?ti34 ?l34 ?c34 ?k34 ?ca34 ?nf34_0 ?nf34_1 ?a35 ?ei35 ?eo35 ?sa35 ?ex35 ?ty35 ?kC35 ?hd35 ?ga35 ?gg35 ?in35 ?ti35 ?l35 ?c35 ?k35 ?ca35 ?nf35_0 ?nf35_1 ?a36 ?ei36 ?eo36 ?sa36 ?ex36 ?ty36 ?kC36 ?hd36 ?ga36 ?gg36 ?in36 ?ti36 ?l36 ?c36 ?k36 ?ca36 ?nf36_0 ?nf36_1 ?a37 ?ei37 ?eo37 ?sa37 ?ex37 ?ty37 ?kC37 ?hd37 ?ga37 ?gg37 ?in37 ?ti37 ?l37 ?c37 ?k37 ?ca37 ?nf37_0 ?nf37_1 ?a38 ?ei38 ?eo38 ?sa38 ?ex38 ?ty38 ?kC38 ?hd38 ?ga38 ?gg38 ?in38 ?ti38 ?l38 ?c38 ?k38 ?ca38 ?nf38_0 ?nf38_1 ?aCB ?pgB ?hdB ?poB ?saB ?mkB ?inB ?fnB ?kpB ?na_finds ?na_words ?l39 ?c39 ?k39 ?lT39 ?vT39 ?lz39 ?me40 ?mf40 ?l40 ?c40 ?k40 ?xL ?xM ?xgMF ?xMN ?yMN ?wMN ?uMN ?vMN ?xgMX ?xgMW
    (case a0 => k_is)
    (case l0 => k_is)
    (case c0 => k_is)
    (case k0 => k_is)
    (case a1 => k_is)
    (case l1 => k_is)
    (case c1 => k_is)
    (case k1 => k_is)
    (case a2 => k_is)
    (case l2 => k_is)
    (case c2 => k_is)
    (case k2 => k_is)
    (case a3 => k_is)
    (case l3 => k_is)
    (case c3 => k_is)
    (case k3 => k_is)
    (case a4 => k_is)
    (case l4 => k_is)
    (case c4 => k_is)
    (case k4 => k_is)
    (case a5 => k_is)
    (case l5 => k_is)
    (case c5 => k_is)
    (case k5 => k_is)
    (case a6 => k_is)
    (case l6 => k_is)
    (case c6 => k_is)
    (case k6 => k_is)
    (case a7 => k_is)
    (case l7 => k_is)
    (case c7 => k_is)
    (case k7 => k_is)
    (case a8 => k_is)
    (case l8 => k_is)
    (case c8 => k_is)
    (case k8 => k_is)
    (case a9 => k_is)
    (case l9 => k_is)
    (case c9 => k_is)
    (case k9 => k_is)
    (case a10 => k_is)
    (case l10 => k_is)
    (case c10 => k_is)
    (case k10 => k_is)
    (case a11 => k_is)
    (case l11 => k_is)
    (case c11 => k_is)
    (case k11 => k_is)
    (case a12 => k_is)
    (case l12 => k_is)
    (case c12 => k_is)
    (case k12 => k_is)
    (case a13 => k_is)
    (case l13 => k_is)
    (case c13 => k_is)
    (case k13 => k_is)
    (case a14 => k_is)
    (case l14 => k_is)
    (case c14 => k_is)
    (case k14 => k_is)
    (case a15 => k_is)
    (case l15 => k_is)
    (case c15 => k_is)
    (case k15 => k_is)
    (case a16 => k_is)
    (case l16 => k_is)
    (case c16 => k_is)
    (case k16 => k_is)
    (case a17 => k_is)
    (case l17 => k_is)
    (case c17 => k_is)
    (case k17 => k_is)
    (case a18 => k_is)
    (case l18 => k_is)
    (case c18 => k_is)
    (case k18 => k_is)
    (case a19 => k_is)
    (case l19 => k_is)
    (case c19 => k_is)
    (case k19 => k_is)
    (case a20 => k_is)
    (case l20 => k_is)
    (case c20 => k_is)
    (case k20 => k_is)
    (case a21 => k_is)
    (case l21 => k_is)
    (case c21 => k_is)
    (case k21 => k_is)
    (case a22 => k_is)
    (case l22 => k_is)
    (case c22 => k_is)
    (case k22 => k_is)
    (case a23 => k_is)
    (case l23 => k_is)
    (case c23 => k_is)
    (case k23 => k_is)
    (case a24 => k_is)
    (case l24 => k_is)
    (case c24 => k_is)
    (case k24 => k_is)
    (case a25 => k_is)
    (case l25 => k_is)
    (case c25 => k_is)
    (case k25 => k_is)
    (case a26 => k_is)
    (case l26 => k_is)
    (case c26 => k_is)
    (case k26 => k_is)
    (case a27 => k_is)
    (case l27 => k_is)
    (case c27 => k_is)
    (case k27 => k_is)
    (case a28 => k_is)
    (case l28 => k_is)
    (case c28 => k_is)
    (case k28 => k_is)
    (case a29 => k_is)
    (case l29 => k_is)
    (case c29 => k_is)
    (case k29 => k_is)
    (case a30 => k_is)
    (case l30 => k_is)
    (case c30 => k_is)
    (case k30 => k_is)
    (case a31 => k_is)
    (case l31 => k_is)
    (case c31 => k_is)
    (case k31 => k_is)
    (case a32 => k_is)
    (case l32 => k_is)
    (case c32 => k_is)
    (case k32 => k_is)
    (case lc => k_is)
    (case pc => exact by rfl)
    (case np => first | kernel_rfl | rfl | decide +kernel)
    (case hcd => first | kernel_rfl | rfl | decide +kernel)
    (case z_len => k_is)
    (case z_range => k_is)
    (case z_int => k_is)
    (case z_abs => k_is)
    (case z_isinstance => k_is)
    (case z_all => k_is)
    (case z_any => k_is)
    (case z_sorted => k_is)
    (case z_set => k_is)
    (case z_list => k_is)
    (case z_tuple => k_is)
    (case z_str => k_is)
    (case z_bool => k_is)
    (case z_enumerate => k_is)
    (case z_min => k_is)
    (case z_max => k_is)
    (case ab1 => k_is)
    (case ab2 => k_is)
    (case a33 => k_is)
    (case ei33 => first | kernel_rfl | rfl | decide +kernel)
    (case eo33 => first | kernel_rfl | rfl | decide +kernel)
    (case sa33 => k_is)
    (case ex33 => k_is)
    (case ty33 => k_is)
    (case kC33 => k_is)
    (case hd33 => k_is)
    (case ga33 => k_is)
    (case gg33 => k_is)
    (case in33 => k_is)
    (case ti33 => k_is)
    (case l33 => k_is)
    (case c33 => k_is)
    (case k33 => k_is)
    (case ca33 => first | kernel_rfl | rfl | decide +kernel)
    (case nf33_0 => k_is)
    (case nf33_1 => k_is)
    (case a34 => k_is)
    (case ei34 => first | kernel_rfl | rfl | decide +kernel)
    (case eo34 => first | kernel_rfl | rfl | decide +kernel)
    (case sa34 => k_is)
    (case ex34 => k_is)
    (case ty34 => k_is)
    (case kC34 => k_is)
    (case hd34 => k_is)
    (case ga34 => k_is)
    (case gg34 => k_is)
    (case in34 => k_is)
    (case ti34 => k_is)
    (case l34 => k_is)
    (case c34 => k_is)
    (case k34 => k_is)
    (case ca34 => first | kernel_rfl | rfl | decide +kernel)
    (case nf34_0 => k_is)
    (case nf34_1 => k_is)
    (case a35 => k_is)
    (case ei35 => first | kernel_rfl | rfl | decide +kernel)
    (case eo35 => first | kernel_rfl | rfl | decide +kernel)
    (case sa35 => k_is)
    (case ex35 => k_is)
    (case ty35 => k_is)
    (case kC35 => k_is)
    (case hd35 => k_is)
    (case ga35 => k_is)
    (case gg35 => k_is)
    (case in35 => k_is)
    (case ti35 => k_is)
    (case l35 => k_is)
    (case c35 => k_is)
    (case k35 => k_is)
    (case ca35 => first | kernel_rfl | rfl | decide +kernel)
    (case nf35_0 => k_is)
    (case nf35_1 => k_is)
    (case a36 => k_is)
    (case ei36 => first | kernel_rfl | rfl | decide +kernel)
    (case eo36 => first | kernel_rfl | rfl | decide +kernel)
    (case sa36 => k_is)
    (case ex36 => k_is)
    (case ty36 => k_is)
    (case kC36 => k_is)
    (case hd36 => k_is)
    (case ga36 => k_is)
    (case gg36 => k_is)
    (case in36 => k_is)
    (case ti36 => k_is)
    (case l36 => k_is)
    (case c36 => k_is)
    (case k36 => k_is)
    (case ca36 => first | kernel_rfl | rfl | decide +kernel)
    (case nf36_0 => k_is)
    (case nf36_1 => k_is)
    (case a37 => k_is)
    (case ei37 => first | kernel_rfl | rfl | decide +kernel)
    (case eo37 => first | kernel_rfl | rfl | decide +kernel)
    (case sa37 => k_is)
    (case ex37 => k_is)
    (case ty37 => k_is)
    (case kC37 => k_is)
    (case hd37 => k_is)
    (case ga37 => k_is)
    (case gg37 => k_is)
    (case in37 => k_is)
    (case ti37 => k_is)
    (case l37 => k_is)
    (case c37 => k_is)
    (case k37 => k_is)
    (case ca37 => first | kernel_rfl | rfl | decide +kernel)
    (case nf37_0 => k_is)
    (case nf37_1 => k_is)
    (case a38 => k_is)
    (case ei38 => first | kernel_rfl | rfl | decide +kernel)
    (case eo38 => first | kernel_rfl | rfl | decide +kernel)
    (case sa38 => k_is)
    (case ex38 => k_is)
    (case ty38 => k_is)
    (case kC38 => k_is)
    (case hd38 => k_is)
    (case ga38 => k_is)
    (case gg38 => k_is)
    (case in38 => k_is)
    (case ti38 => k_is)
    (case l38 => k_is)
    (case c38 => k_is)
    (case k38 => k_is)
    (case ca38 => first | kernel_rfl | rfl | decide +kernel)
    (case nf38_0 => k_is)
    (case nf38_1 => k_is)
    (case aCB => k_is)
    (case pgB => first | kernel_rfl | rfl | decide +kernel)
    (case hdB => first | kernel_rfl | rfl | decide +kernel)
    (case poB => first | kernel_rfl | rfl | decide +kernel)
    (case saB => k_is)
    (case mkB => first | kernel_rfl | rfl | decide +kernel)
    (case inB => k_is)
    (case fnB => first | kernel_rfl | rfl | decide +kernel)
    (case kpB => k_is)
    (case na_finds => k_is)
    (case na_words => k_is)
    (case l39 => k_is)
    (case c39 => k_is)
    (case k39 => k_is)
    (case lT39 => k_is)
    (case vT39 => exact .cons rfl .nil)
    (case lz39 => k_is)
    (case me40 => k_is)
    (case mf40 => first | kernel_rfl | rfl | decide +kernel)
    (case l40 => k_is)
    (case c40 => k_is)
    (case k40 => k_is)
    (case xL => k_is)
    (case xM => k_is)
    (case xgMF => k_is)
    (case xMN => k_is)
    (case yMN => k_is)
    (case xgMX => k_is)
    (case xgMW => k_is)
    (case wMN => exact rfl)
    (case uMN => exact ⟨⟨_, _, rfl, rfl⟩, ⟨_, _, rfl, rfl⟩, ⟨_, _, rfl, rfl⟩, trivial⟩)
    (case vMN => exact .cons ⟨⟨_, rfl⟩, rfl⟩ (.cons ⟨⟨_, rfl⟩, rfl⟩ (.cons ⟨⟨_, rfl⟩, rfl⟩ .nil)))
