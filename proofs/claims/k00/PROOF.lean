import PyProof.Rows.All
import Wide.All
import OpenK.AllK
import Wide.FinOn
import KE.OsRunLaw
import PyProof.EqAt
import PyProof.EqKinds
import PyProof.TupleCall
import HandS.Base
import HandS.Call
import HandS.List
import HandS.Set
import HandS.SetFor
import HandS.Comp
import HandS.Iter
import HandS.Text
import HandS.Ends
import HandS.Words
import HandS.WordsList
import HandS.IsInst
import HandS.Style
import HandS.TupAny
import HandS.More
import HandS.Walk
import HandS.Wide
import HandS.Codes
import HandS.ReCall
import HandS.Strs
import KE.KExcInit
import KE.KTryMore
import KE.KExcHand
import HandS.Exc
import HandS.ExcInit
import HandS.WordsExc
import HandS.HotCalls
import HandS.Lambda
import HandS.ExcField
import HandS.EndOwn
import HandS.Deep
import PyProof.P3In
import HandS.ExcIs
import PySem.Challenge.RW_threeorders_k00_errors_by_themselves
set_option Elab.async false
set_option linter.all false
set_option maxRecDepth 100000
set_option maxHeartbeats 8000000
/-! sets of texts: set(xs) of a list or tuple of texts, sorted of it -/
namespace L2
open PySem PySem.Spec PyProof.Rows

/-- the text that an entry of a set's table holds -/
def tagOf (v : Value) : Str := match v with | .str x _ => x | _ => Str.empty
def tagE (e : Int × Value) : Str := tagOf e.2

/-- at a stands a set whose members are the texts of l, each once; its table can be walked -/
def TxSet (P : Program) (w : World) (h : Heap) (a : Addr) (l : List Str) : Prop :=
  ∃ o es ep t, h.get? a = some o ∧ o.ExactSet ∧ o.data = .set es ep t ∧
    (∀ e ∈ es.toList, ∃ tk, e.2 = Value.str (tagE e) tk ∧ e.1 = (PySem.strKind P w).hash (tagE e)) ∧
    (es.toList.map tagE).Perm l ∧ l.Nodup ∧ es.size < scanBound ∧ t.fits es.size = true ∧ Ris t.place.toList ∧
    (w.params.followText "set-order" = true ∨ t.led = true)

section
variable {P : Program} {w : World} {h h' : Heap} {a : Addr} {l : List Str}
theorem TxSet.stay (R : TxSet P w h a l) (k : ∀ o, h.get? a = some o → h'.get? a = some o) : TxSet P w h' a l :=
  let ⟨o, es, ep, t, ho, r⟩ := R
  ⟨o, es, ep, t, k o ho, r⟩
theorem TxSet.perm {m : List Str} (R : TxSet P w h a l) (p : l.Perm m) : TxSet P w h a m :=
  let ⟨o, es, ep, t, ho, hx, hd, g, pm, nd, r⟩ := R
  ⟨o, es, ep, t, ho, hx, hd, g, pm.trans p, p.nodup_iff.mp nd, r⟩
theorem tx_elems {es : List (Int × Value)} (g : ∀ e ∈ es, ∃ tk, e.2 = Value.str (tagE e) tk ∧ e.1 = (PySem.strKind P w).hash (tagE e)) : ElemsOf (PySem.strKind P w) es := by
  intro e he
  obtain ⟨tk, h1, h2⟩ := g e he
  refine ⟨⟨tagE e, ?_, h2⟩, ?_⟩
  · rw [h1]
    exact PySem.strKind_is P w (tagE e) tk
  · rw [h1]
    rfl
theorem tx_is {es : List (Int × Value)} (g : ∀ e ∈ es, ∃ tk, e.2 = Value.str (tagE e) tk ∧ e.1 = (PySem.strKind P w).hash (tagE e)) {e : Int × Value} (he : e ∈ es) (x : Str) : (PySem.strKind P w).is x e.2 = true ↔ tagE e = x := by
  obtain ⟨tk, h1, _⟩ := g e he
  constructor
  · intro q
    rw [h1] at q
    obtain ⟨t, z⟩ := Value.isStrOf_shape (show Value.isStrOf x (Value.str (tagE e) tk) = true from q)
    injection z
  · intro q
    rw [h1, q]
    exact PySem.strKind_is P w x tk
end

section
variable {P : Program} {w : World} {A : Around} {E : Value → Shared → Prop} {s : Shared} {a : Addr} {l : List Str}

/-- the set's store, and the table's growth behind it -/
theorem tx_store {g : Bool → Sem Unit} (hg : ∀ (b : Bool) (s₁ : Shared) (Q' : Unit → Shared → Prop), Q' () s₁ → wpAny (model P w) A (g b) Q' E s₁)
    {o : Obj} {es : Array (Int × Value)} {ep : Nat} {t : SetTable} (ho : s.heap.get? a = some o) (hex : o.ExactSet) (hd : o.data = .set es ep t)
    {fs : Array (Int × Value)} {u : SetTable} {m : List Str}
    (hgood : ∀ e ∈ fs.toList, ∃ tk, e.2 = Value.str (tagE e) tk ∧ e.1 = (PySem.strKind P w).hash (tagE e)) (hp : (fs.toList.map tagE).Perm m) (hm : m.Nodup)
    (hb : fs.size < scanBound) (hf : u.fits fs.size = true) (hr : Ris u.place.toList) (hl : w.params.followText "set-order" = true ∨ u.led = true) {dum : Bool} {R : Option Bool → Shared → Prop}
    (fin : ∀ h', Heap.SameBut a s.heap h' → TxSet P w h' a m → R (some true) { s with heap := h' }) :
    wpAny (model P w) A (do
        storeSet a fs u
        if (!dum && u.tooFull) = true then do
            g (relayAll u fs (SetTable.grown fs.size)).2.2
            storeSet a (relayAll u fs (SetTable.grown fs.size)).1 (relayAll u fs (SetTable.grown fs.size)).2.1
            pure (some true)
          else pure (some true)) R E s := by
  refine wpAny_bind (wpAny_storeSet_of ho hd ?_ (fits_of_scanBound hb))
  have q1 := store_at (es' := fs) (t' := u) ho hd
  have b1 := Heap.SameBut.update s.heap a (Obj.putSet fs u)
  split
  · have c1 := relayAll_perm u fs (SetTable.grown fs.size)
    have c2 := relayAll_fits u fs (SetTable.grown fs.size)
    have c3 := relayAll_ris u fs (SetTable.grown fs.size)
    have c4 := relayAll_led u fs (SetTable.grown fs.size)
    generalize relayAll u fs (SetTable.grown fs.size) = Z at c1 c2 c3 c4 ⊢
    obtain ⟨gs, v, gave⟩ := Z
    dsimp only at c1 c2 c3 c4 ⊢
    have z1 : gs.size = fs.size := by rw [← Array.length_toList, c1.length_eq, Array.length_toList]
    have z2 : gs.size < scanBound := by rw [z1]; exact hb
    refine wpAny_bind (hg _ _ _ ?_)
    refine wpAny_bind (wpAny_storeSet_of q1 rfl ?_ (fits_of_scanBound z2))
    have q2 := store_at (es' := gs) (t' := v) q1 rfl
    refine wpAny_pure (fin _ (b1.trans (Heap.SameBut.update _ a _)) ?_)
    refine ⟨_, gs, _, v, q2, hex, rfl, fun e he => hgood e (c1.mem_iff.mp he), (c1.map tagE).trans hp, hm, z2, c2, c3, ?_⟩
    rcases hl with z | z
    · exact .inl z
    · exact .inr (c4.trans z)
  · exact wpAny_pure (fin _ b1 ⟨_, fs, _, u, q1, hex, rfl, hgood, hp, hm, hb, hf, hr, hl⟩)

/-- one text more -/
theorem tx_put {x : Str} {tk : Tok} {Q : Bool → Shared → Prop} (R : TxSet P w s.heap a l) (room : l.length + 1 < scanBound)
    (fin : ∀ h' b, Heap.SameBut a s.heap h' → TxSet P w h' a (if x ∈ l then l else x :: l) → Q b { s with heap := h' }) :
    wpAny (model P w) A (setAddHashed a (.str x tk) ((PySem.strKind P w).hash x)) Q E s := by
  obtain ⟨o, es, ep, t, ho, hex, hd, g, hp, nd, hb, hf, hr, hl⟩ := R
  have hkey : (PySem.strKind P w).is x (.str x tk) = true := PySem.strKind_is P w x tk
  have hsc : (Value.str x tk).scannable = true := rfl
  have hel := tx_elems g
  unfold setAddHashed setAddHashedIn
  refine wpAny_holding (wpAny_bind (wpAny_setState_of ho hd hf ?_))
  dsimp only
  rw [byScan_of hsc hb hel]
  simp only [↓reduceIte]
  unfold setAddByScan
  refine wpAny_bind (wpAny_bind (wpAny_rule (wpAny_bind (wpAny_setScan_of hkey ho hd hf hel ?_))))
  cases hfi : List.findIdx? (fun e => (PySem.strKind P w).is x e.2) es.toList with
  | some j =>
    dsimp only
    obtain ⟨hj, pj, _⟩ := List.findIdx?_eq_some_iff_getElem.mp hfi
    have hx : x ∈ l := hp.mem_iff.mp (List.mem_map.mpr ⟨es.toList[j], List.getElem_mem hj, (tx_is g (List.getElem_mem hj) x).mp pj⟩)
    refine wpAny_pure (wpAny_pure (fin s.heap _ (Heap.SameBut.refl a s.heap) ?_))
    rw [if_pos hx]
    exact ⟨o, es, ep, t, ho, hex, hd, g, hp, nd, hb, hf, hr, hl⟩
  | none =>
    dsimp only
    have hx : x ∉ l := fun z => by
      obtain ⟨e, he, q⟩ := List.mem_map.mp (hp.mem_iff.mpr z)
      have c := List.findIdx?_eq_none_iff.mp hfi e he
      rw [(tx_is g he x).mpr q] at c
      cases c
    have gw : ∀ (b : Bool) {s₁ : Shared} {Q' : Unit → Shared → Prop}, Q' () s₁ → wpAny (model P w) A (match b with | true => rule "set.scan.the-table-gave-way" | false => pure ()) Q' E s₁ :=
      fun b s₁ Q' q => by cases b <;> first | exact wpAny_pure q | exact wpAny_rule q
    have d1 := layNew_perm t es ((PySem.strKind P w).hash x) (.str x tk)
    have d2 := layNew_fits t es ((PySem.strKind P w).hash x) (.str x tk)
    have d3 := layNew_ris t es ((PySem.strKind P w).hash x) (.str x tk) hr
    have d4 := layNew_led t es ((PySem.strKind P w).hash x) (.str x tk)
    generalize layNew t es ((PySem.strKind P w).hash x) (.str x tk) = Z at d1 d2 d3 d4 ⊢
    obtain ⟨fs, u, dum, gave⟩ := Z
    dsimp only at d1 d2 d3 d4 ⊢
    rw [Array.toList_push] at d1
    have e1 : fs.toList.Perm (((PySem.strKind P w).hash x, Value.str x tk) :: es.toList) := d1.trans (List.perm_append_singleton _ _)
    have e2 : (fs.toList.map tagE).Perm (x :: l) := (e1.map tagE).trans (List.Perm.cons x hp)
    have good : ∀ e ∈ fs.toList, ∃ tk, e.2 = Value.str (tagE e) tk ∧ e.1 = (PySem.strKind P w).hash (tagE e) := fun e he => by
      rcases List.mem_cons.mp (e1.mem_iff.mp he) with z | z
      · rw [z]; exact ⟨tk, rfl, rfl⟩
      · exact g e z
    have e3 : (x :: l).Nodup := List.nodup_cons.mpr ⟨hx, nd⟩
    have e4 : fs.size = l.length + 1 := by rw [← Array.length_toList, ← List.length_map (f := tagE), e2.length_eq]; rfl
    have e5 : fs.size < scanBound := by rw [e4]; exact room
    have e6 : w.params.followText "set-order" = true ∨ u.led = true := by
      rcases hl with z | z
      · exact .inl z
      · exact .inr (d4.trans z)
    have last : ∀ h' b, Heap.SameBut a s.heap h' → TxSet P w h' a (x :: l) → Q b { s with heap := h' } := fun h' b sb r => fin h' b sb (by rw [if_neg hx]; exact r)
    refine wpAny_bind (gw _ ?_)
    split
    · refine wpAny_bind ?_
      rw [hashByValue_scannable 8 hsc]
      refine wpAny_pure ?_
      refine tx_store ?_ ho hex hd good e2 e3 e5 ?_ ?_ ?_ ?_
      · intro b s₁ Q' q; cases b <;> first | exact wpAny_pure q | exact wpAny_rule q
      · first | (split <;> first | exact d2 | exact SetTable.fits_plain_off d2) | exact d2
      · first | (split <;> exact d3) | exact d3
      · first | (split <;> exact e6) | exact e6
      · intro h' sb r; dsimp only; exact wpAny_pure (last h' _ sb r)
    · refine wpAny_bind (wpAny_pure ?_)
      simp only [↓reduceIte]
      refine tx_store ?_ ho hex hd good e2 e3 e5 d2 d3 e6 ?_
      · intro b s₁ Q' q; cases b <;> first | exact wpAny_pure q | exact wpAny_rule q
      · intro h' sb r; dsimp only; exact wpAny_pure (last h' _ sb r)

/-- the texts of xs, each once, as a set that took them one by one holds them -/
def once : List Str → List Str → List Str
  | acc, [] => acc
  | acc, x :: r => once (if x ∈ acc then acc else x :: acc) r
theorem once_nodup : ∀ (xs acc : List Str), acc.Nodup → (once acc xs).Nodup
  | [], _, h => h
  | x :: r, acc, h => by
    unfold once
    refine once_nodup r _ ?_
    split
    · exact h
    · exact List.nodup_cons.mpr ⟨by assumption, h⟩
theorem once_mem : ∀ (xs acc : List Str) (y : Str), y ∈ once acc xs ↔ y ∈ acc ∨ y ∈ xs
  | [], acc, y => by simp [once]
  | x :: r, acc, y => by
    unfold once
    rw [once_mem r _ y]
    split
    · rename_i hx
      constructor
      · rintro (z | z)
        · exact .inl z
        · exact .inr (List.mem_cons_of_mem _ z)
      · rintro (z | z)
        · exact .inl z
        · rcases List.mem_cons.mp z with e | z
          · exact .inl (e ▸ hx)
          · exact .inr z
    · simp only [List.mem_cons]
      constructor
      · rintro ((z | z) | z)
        · exact .inr (.inl z)
        · exact .inl z
        · exact .inr (.inr z)
      · rintro (z | z | z)
        · exact .inl (.inr z)
        · exact .inl (.inl z)
        · exact .inr z
theorem once_length : ∀ (xs acc : List Str), (once acc xs).length ≤ acc.length + xs.length
  | [], acc => by simp [once]
  | x :: r, acc => by
    unfold once
    have q := once_length r (if x ∈ acc then acc else x :: acc)
    rw [List.length_cons]
    split at q
    · rw [if_pos (by assumption)]; omega
    · rw [if_neg (by assumption)]; rw [List.length_cons] at q; omega

/-- the loop of set(xs): one text after another -/
theorem tx_loop {I : Addr} {fp wr : List Addr} {G : Array GenState → Array GenState → Prop} {n : Nat} {Pv : Nat → Value → Prop} {St : Nat → Shared → Prop} {R : Result → Shared → Prop}
    (W : WalksS P w A.in1 I fp wr G n Pv St) (S : Addr) (hSf : S ∉ fp) (xs : List Str) (hn : n = xs.length) (hval : ∀ i v, Pv i v → ∃ x t, xs[i]? = some x ∧ v = .str x t) :
    ∀ (k i : Nat) (acc : List Str) (s : Shared), n - i = k → i ≤ n → St i s → TxSet P w s.heap S acc → acc.length + k + 1 < scanBound →
      (∀ s', Moved (S :: wr) G s s' → TxSet P w s'.heap S (once acc (xs.drop i)) → R (.ok (.ret .none)) s') →
      codeAny (model P w) A (.builtin "set.update.loop" ⟨[.ref S, .ref I], []⟩) R s := by
  have nw : S ∉ wr := fun h => hSf (W.sub _ h)
  have sb : ∀ b ∈ wr, b ∈ S :: wr := fun b hb => List.mem_cons_of_mem _ hb
  intro k
  induction k with
  | zero =>
    intro i acc s hk hi hst hS _ hR
    have e : i = n := by omega
    subst e
    refine codeAny_builtin F.entry_set_update_loop ?_
    rw [Around.under_plainId F.plain_set_update_loop _]
    show wpAny _ A.in1 (pyNext (.ref I) >>= _) _ _ s
    refine wpAny_bind (W.done s _ _ hst fun s' hm => ?_)
    show wpAny _ A.in1 (ret Value.none) _ _ s'
    have q : xs.drop i = [] := List.drop_eq_nil_of_le (by omega)
    rw [q] at hR
    exact wpAny_pure (hR s' (hm.mono sb) (hS.stay fun o e => hm.heap S o nw e))
  | succ k ih =>
    intro i acc s hk hi hst hS hroom hR
    have lt : i < n := by omega
    refine codeAny_builtin F.entry_set_update_loop ?_
    rw [Around.under_plainId F.plain_set_update_loop _]
    show wpAny _ A.in1 (pyNext (.ref I) >>= _) _ _ s
    refine wpAny_bind (W.item i s _ _ lt hst fun v s' hP hst' hm => ?_)
    obtain ⟨x, t, hx, rfl⟩ := hval i v hP
    have hS1 : TxSet P w s'.heap S acc := hS.stay fun o e => hm.heap S o nw e
    show wpAny _ A.in1 (holding [Value.str x t] (setAdd S (.str x t)) >>= _) _ _ s'
    refine wpAny_bind (wpAny_holding ?_)
    unfold setAdd
    refine wpAny_holding ?_
    refine wpAny_bind ((PySem.strKind P w).pyHash (k := x) (PySem.strKind_is _ _ _ _) ?_)
    refine tx_put (s := { s' with toks := s'.toks + 1 }) hS1 (by omega) fun h' b hsb hS2 => ?_
    have ed : xs.drop i = x :: xs.drop (i + 1) := by
      have hlt : i < xs.length := by omega
      rw [List.drop_eq_getElem_cons hlt]
      have q : xs[i] = x := by
        rw [List.getElem?_eq_getElem hlt] at hx
        exact Option.some.inj hx
      rw [q]
    have hlen : (if x ∈ acc then acc else x :: acc).length ≤ acc.length + 1 := by
      split
      · omega
      · exact Nat.le_refl _
    refine wpAny_pure ⟨plainId_quiet F.plain_set_update_loop _, ih (i + 1) _ _ (by omega) lt (W.frame _ s' _ _ hst' (Nat.le_succ _) fun b hb o e => ?_) hS2 (by omega) fun s'' hm'' hS'' => ?_⟩
    · rw [hsb.2 b (fun h : b = S => hSf (by rw [← h]; exact hb))]; exact e
    · refine hR s'' (Moved.trans W.gtrans ((hm.mono sb).then_heap (Nat.le_succ _) fun b o hb e => ?_) hm'') (by rw [ed]; exact hS'')
      rw [hsb.2 b (fun h : b = S => hb (by rw [h]; exact List.mem_cons_self))]; exact e
end

/-- the set that set() has just laid -/
abbrev txNew (w : World) : Obj := { cls := .type "set", dict := none, data := .set #[] 0 (.fresh 0 0 (!w.params.followText "set-order")) }
theorem txNew_at {P : Program} {w : World} {h : Heap} {a : Addr} (ho : h.get? a = some (txNew w)) : TxSet P w h a [] :=
  ⟨_, #[], 0, _, ho, ⟨rfl, rfl, rfl⟩, rfl, (fun e he => by simp at he), (by simp), List.nodup_nil, (by decide), (by rfl), List.Pairwise.nil, by
    show _ ∨ (!w.params.followText "set-order") = true
    cases w.params.followText "set-order"
    · exact .inr rfl
    · exact .inl rfl⟩
theorem txs_at : ∀ {us : List Value} {xs : List Str}, StrsAre us xs → ∀ (i : Nat) (v : Value), us[i]? = some v → ∃ x t, xs[i]? = some x ∧ v = .str x t
  | _, _, .nil, i, v, h => by simp at h
  | _, _, .cons y t r, 0, v, h => ⟨y, t, rfl, by simpa using h.symm⟩
  | _, _, .cons y t r, i + 1, v, h => by
    simp only [List.getElem?_cons_succ] at h
    exact txs_at r i v h
section
variable {P : Program} {w : World} {A : Around} {E : Value → Shared → Prop} {s : Shared}

set_option maxRecDepth 100000 in
set_option maxHeartbeats 6400000 in
/-- set(xs), xs a tuple of texts -/
theorem tx_call_tuple {l : Addr} {items : Array Value} (xs : List Str) {Q : Value → Shared → Prop} (hh : A.handled = none) (hl : s.heap.IsTuple l items) (hit : StrsAre items.toList xs) (hb : xs.length + 1 < scanBound)
    (fin : ∀ (h' : Heap) (tk : Nat), TxSet P w h' s.heap.objs.size (once [] xs) → (∀ b o, s.heap.get? b = some o → h'.get? b = some o) → Q (.ref s.heap.objs.size) { s with heap := h', toks := tk }) :
    wpAny (model P w) A (call (.type "set") [.ref l]) Q E s := by
  have isz : items.size = xs.length := by
    have q := StrsAre.len_eq hit
    rw [Array.length_toList] at q
    exact q
  obtain ⟨c, tl, hmro⟩ := F.called_set.mro
  have hmade := F.called_set.made
  have hsub := F.called_set.sub
  refine wpAny_call (codeAny_of_tree ?_)
  show wpAny _ _ (callAny (.type "set") _) _ _ _
  refine wpAny_pure ⟨Code.quiet_builtin _ (by decide +kernel), codeAny_builtin F.entry_type_call ?_⟩
  rw [Around.under_plain (weight_type_call_type "set" [.ref l] []) rfl]
  have h1 := F.called_set.notType
  have h2 := F.called_set.canCreate
  have hct := F.typeCall_set_1 (.ref l)
  repeat (any_goals (first | assumption | wp_step))
  refine codeAny_mono (code_set_led1 (.ref l) (E := E) (Q₁ := fun obj s₁ => obj = .ref s.heap.objs.size ∧ s₁ = { s with heap := s.heap.push (txNew w) }) ⟨rfl, rfl⟩) fun r s₁ hr => ?_
  cases r with
  | error e => exact hr
  | ok fl =>
    cases fl with
    | ret obj =>
      obtain ⟨rfl, rfl⟩ := hr
      have atS : (s.heap.push (txNew w)).get? s.heap.objs.size = some (txNew w) := Heap.get?_push_size _ rfl
      have hT : Shared.TypeIs { s with heap := s.heap.push (txNew w) } (.ref s.heap.objs.size) "set" := ⟨_, atS, rfl⟩
      have hli := F.called_set.init.lookup
      have hbi := F.called_set.init.bind (.ref s.heap.objs.size)
      repeat (any_goals (first | assumption | wp_step))
      refine codeAny_mono (codeAny_call_builtin (R := wants (fun r s₂ => r = .none ∧ ∃ h' tk, s₂ = { s with heap := h', toks := tk } ∧ TxSet P w h' s.heap.objs.size (once [] xs) ∧
          (∀ b o, s.heap.get? b = some o → h'.get? b = some o)) E) F.called_set.init.plain F.entry_set_init (check_set_init_1 hT ?_)) fun r₂ s₂ hr₂ => ?_
      · obtain ⟨ol, hol, hcl, nl, hdl⟩ := hl
        obtain ⟨ocls, odict, odata, oslots⟩ := ol
        simp only at hcl hdl
        subst hcl; subst hdl
        have old : (s.heap.push (txNew w)).get? l = some { cls := .type "tuple", dict := odict, data := .seq items nl, slots := oslots } := Heap.get?_push_of_some _ hol
        have hsls := F.sub_tuple_set
        have hslf := F.sub_tuple_frozenset
        have hne : (Value.type "tuple" == Value.type "dict") = false := by decide
        have hl1 : (s.heap.push (txNew w)).IsTuple l items := ⟨_, old, rfl, nl, rfl⟩
        unfold Builtin.«set.__init__» noKeywords Builtin.Frozenset.updateFrom
        generalize hPI : pyIter = PI
        wp_walk
        subst hPI
        refine wpAny_pyIter_tuple hl1 ?_
        refine wpAny_bind (wpAny_runValue ?_)
        have lS : l < s.heap.objs.size := Heap.lt_size hol
        have hh3 : A.in1.in1.in1.handled = none := by simp [hh]
        have apart : l ≠ (s.heap.push (txNew w)).objs.size := by
          rw [Heap.size_push]; exact Nat.ne_of_lt (Nat.lt_succ_of_lt lS)
        have notfp : s.heap.objs.size ∉ [(s.heap.push (txNew w)).objs.size, l] := by
          rw [Heap.size_push]; simp only [List.mem_cons, List.mem_singleton, List.not_mem_nil, or_false, not_or]
          exact ⟨Nat.ne_of_lt (Nat.lt_succ_self _), Nat.ne_of_gt lS⟩
        have hval : ∀ (i : Nat) (v : Value), items[i]? = some v → ∃ x t, xs[i]? = some x ∧ v = .str x t := fun i v hv => txs_at hit i v (by rw [Array.getElem?_toList]; exact hv)
        have at0 : ((s.heap.push (txNew w)).push { cls := .type "tuple_iterator", data := .fields #[.ref l, .int 0 0] }).get? s.heap.objs.size = some (txNew w) := Heap.get?_push_of_some _ atS
        refine tx_loop ((Walks.tuple hh3 _ l apart items).toS) s.heap.objs.size notfp xs isz hval (items.size - 0) 0 [] _ (by omega) (Nat.zero_le _)
          ⟨⟨_, Heap.get?_push_size _ rfl, rfl, rfl⟩, (hl1.push _)⟩ (txNew_at at0) (by rw [isz]; simpa using hb) fun s' hm hS => ?_
        obtain ⟨h', g2, d', tk', os'⟩ := s'
        have eg : g2 = s.gens := hm.gens
        have ed : d' = s.drawn := hm.drawn
        have eo : os' = s.os := hm.os
        subst eg; subst ed; subst eo
        show wpAny _ _ _ _ _ _
        refine wpAny_pure ?_
        show wpAny _ _ (ret Value.none) _ _ _
        refine wpAny_pure ⟨rfl, h', tk', rfl, hS, fun b o e => ?_⟩
        have b0 : b < s.heap.objs.size := Heap.lt_size e
        have b1 : b ≠ s.heap.objs.size := Nat.ne_of_lt b0
        have b2 : b ≠ (s.heap.push (txNew w)).objs.size := by
          rw [Heap.size_push]; exact Nat.ne_of_lt (Nat.lt_succ_of_lt b0)
        exact hm.heap b o (by simp only [List.mem_cons, List.mem_singleton, List.not_mem_nil, or_false, not_or]; exact ⟨b1, b2⟩) (Heap.get?_push_of_some _ (Heap.get?_push_of_some _ e))
      · cases r₂ with
        | error e => exact hr₂
        | ok fl₂ =>
          cases fl₂ with
          | ret r =>
            obtain ⟨rfl, h', tk, rfl, hS, kp⟩ := hr₂
            repeat (any_goals (first | assumption | wp_step))
            exact fin _ _ hS kp
          | _ => exact hr₂.elim
    | _ => exact hr.elim

set_option maxRecDepth 100000 in
set_option maxHeartbeats 6400000 in
/-- set(xs), xs a list of texts -/
theorem tx_call_list {l : Addr} {items : Array Value} (xs : List Str) {Q : Value → Shared → Prop} (hh : A.handled = none) (hl : s.heap.IsList l items) (hit : StrsAre items.toList xs) (hb : xs.length + 1 < scanBound)
    (fin : ∀ (h' : Heap) (tk : Nat), TxSet P w h' s.heap.objs.size (once [] xs) → (∀ b o, s.heap.get? b = some o → h'.get? b = some o) → Q (.ref s.heap.objs.size) { s with heap := h', toks := tk }) :
    wpAny (model P w) A (call (.type "set") [.ref l]) Q E s := by
  have isz : items.size = xs.length := by
    have q := StrsAre.len_eq hit
    rw [Array.length_toList] at q
    exact q
  obtain ⟨c, tl, hmro⟩ := F.called_set.mro
  have hmade := F.called_set.made
  have hsub := F.called_set.sub
  refine wpAny_call (codeAny_of_tree ?_)
  show wpAny _ _ (callAny (.type "set") _) _ _ _
  refine wpAny_pure ⟨Code.quiet_builtin _ (by decide +kernel), codeAny_builtin F.entry_type_call ?_⟩
  rw [Around.under_plain (weight_type_call_type "set" [.ref l] []) rfl]
  have h1 := F.called_set.notType
  have h2 := F.called_set.canCreate
  have hct := F.typeCall_set_1 (.ref l)
  repeat (any_goals (first | assumption | wp_step))
  refine codeAny_mono (code_set_led1 (.ref l) (E := E) (Q₁ := fun obj s₁ => obj = .ref s.heap.objs.size ∧ s₁ = { s with heap := s.heap.push (txNew w) }) ⟨rfl, rfl⟩) fun r s₁ hr => ?_
  cases r with
  | error e => exact hr
  | ok fl =>
    cases fl with
    | ret obj =>
      obtain ⟨rfl, rfl⟩ := hr
      have atS : (s.heap.push (txNew w)).get? s.heap.objs.size = some (txNew w) := Heap.get?_push_size _ rfl
      have hT : Shared.TypeIs { s with heap := s.heap.push (txNew w) } (.ref s.heap.objs.size) "set" := ⟨_, atS, rfl⟩
      have hli := F.called_set.init.lookup
      have hbi := F.called_set.init.bind (.ref s.heap.objs.size)
      repeat (any_goals (first | assumption | wp_step))
      refine codeAny_mono (codeAny_call_builtin (R := wants (fun r s₂ => r = .none ∧ ∃ h' tk, s₂ = { s with heap := h', toks := tk } ∧ TxSet P w h' s.heap.objs.size (once [] xs) ∧
          (∀ b o, s.heap.get? b = some o → h'.get? b = some o)) E) F.called_set.init.plain F.entry_set_init (check_set_init_1 hT ?_)) fun r₂ s₂ hr₂ => ?_
      · obtain ⟨ol, hol, hcl, nl, hdl⟩ := hl
        obtain ⟨ocls, odict, odata, oslots⟩ := ol
        simp only at hcl hdl
        subst hcl; subst hdl
        have old : (s.heap.push (txNew w)).get? l = some { cls := .type "list", dict := odict, data := .seq items nl, slots := oslots } := Heap.get?_push_of_some _ hol
        have hsls := F.sub_list_set
        have hslf := F.sub_list_frozenset
        have hne : (Value.type "list" == Value.type "dict") = false := by decide
        have hl1 : (s.heap.push (txNew w)).IsList l items := ⟨_, old, rfl, nl, rfl⟩
        unfold Builtin.«set.__init__» noKeywords Builtin.Frozenset.updateFrom
        generalize hPI : pyIter = PI
        wp_walk
        subst hPI
        refine wpAny_pyIter_list hl1 ?_
        refine wpAny_bind (wpAny_runValue ?_)
        have lS : l < s.heap.objs.size := Heap.lt_size hol
        have hh3 : A.in1.in1.in1.handled = none := by simp [hh]
        have apart : l ≠ (s.heap.push (txNew w)).objs.size := by
          rw [Heap.size_push]; exact Nat.ne_of_lt (Nat.lt_succ_of_lt lS)
        have notfp : s.heap.objs.size ∉ [(s.heap.push (txNew w)).objs.size, l] := by
          rw [Heap.size_push]; simp only [List.mem_cons, List.mem_singleton, List.not_mem_nil, or_false, not_or]
          exact ⟨Nat.ne_of_lt (Nat.lt_succ_self _), Nat.ne_of_gt lS⟩
        have hval : ∀ (i : Nat) (v : Value), items[i]? = some v → ∃ x t, xs[i]? = some x ∧ v = .str x t := fun i v hv => txs_at hit i v (by rw [Array.getElem?_toList]; exact hv)
        have at0 : ((s.heap.push (txNew w)).push { cls := .type "list_iterator", data := .fields #[.ref l, .int 0 0] }).get? s.heap.objs.size = some (txNew w) := Heap.get?_push_of_some _ atS
        refine tx_loop ((Walks.list hh3 _ l apart items).toS) s.heap.objs.size notfp xs isz hval (items.size - 0) 0 [] _ (by omega) (Nat.zero_le _)
          ⟨⟨_, Heap.get?_push_size _ rfl, rfl, rfl⟩, (hl1.push _)⟩ (txNew_at at0) (by rw [isz]; simpa using hb) fun s' hm hS => ?_
        obtain ⟨h', g2, d', tk', os'⟩ := s'
        have eg : g2 = s.gens := hm.gens
        have ed : d' = s.drawn := hm.drawn
        have eo : os' = s.os := hm.os
        subst eg; subst ed; subst eo
        show wpAny _ _ _ _ _ _
        refine wpAny_pure ?_
        show wpAny _ _ (ret Value.none) _ _ _
        refine wpAny_pure ⟨rfl, h', tk', rfl, hS, fun b o e => ?_⟩
        have b0 : b < s.heap.objs.size := Heap.lt_size e
        have b1 : b ≠ s.heap.objs.size := Nat.ne_of_lt b0
        have b2 : b ≠ (s.heap.push (txNew w)).objs.size := by
          rw [Heap.size_push]; exact Nat.ne_of_lt (Nat.lt_succ_of_lt b0)
        exact hm.heap b o (by simp only [List.mem_cons, List.mem_singleton, List.not_mem_nil, or_false, not_or]; exact ⟨b1, b2⟩) (Heap.get?_push_of_some _ (Heap.get?_push_of_some _ e))
      · cases r₂ with
        | error e => exact hr₂
        | ok fl₂ =>
          cases fl₂ with
          | ret r =>
            obtain ⟨rfl, h', tk, rfl, hS, kp⟩ := hr₂
            repeat (any_goals (first | assumption | wp_step))
            exact fin _ _ hS kp
          | _ => exact hr₂.elim
    | _ => exact hr.elim

theorem txs_of : ∀ (l : List Value), (∀ v ∈ l, ∃ tk, v = Value.str (tagOf v) tk) → StrsAre l (l.map tagOf)
  | [], _ => .nil
  | v :: l, h => by
    obtain ⟨tk, e⟩ := h v List.mem_cons_self
    rw [List.map_cons]
    generalize tagOf v = x at e ⊢
    subst e
    exact .cons x tk (txs_of l fun u hu => h u (List.mem_cons_of_mem _ hu))

/-- sorted(a set of texts) -/
theorem tx_sorted {a : Addr} {l : List Str} {Q : Value → Shared → Prop} (R : TxSet P w s.heap a l) (hh : A.handled = none) (h64 : l.length < 64)
    (fin : ∀ s' p (out : Array Value) (c : Nat) (ys : List Str), (∀ b o, s.heap.get? b = some o → s'.heap.get? b = some o) → s'.gens = s.gens → s'.os = s.os → s.heap.objs.size ≤ p →
      s'.heap.get? p = some (seqObj "list" out c) → StrsAre out.toList ys → ys.Perm l → sortedS ys = true → Q (.ref p) s') :
    wpAny (model P w) A (call (.builtin "sorted") [.ref a]) Q E s := by
  obtain ⟨o, es, ep, t, ho, hex, hd, g, hp, nd, hb, hf, hr, hl⟩ := R
  refine Calls.call_function_entry kind_sorted plain_sorted entry_sorted (args_sorted1 _) ?_
  unfold Builtin.«sorted»
  refine wpAny_bind (m := checkCount "sorted" 1 1 _) (wpAny_pure ?_)
  refine wpAny_bind (collect_set (A := A.in1) hh ⟨o, ho, hex.1, hd⟩ hf hb hr hl fun s1 vs k1 hz g1 o1 pm => ?_)
  have hS : StrsAre vs (vs.map tagOf) := txs_of vs fun v hv => by
    obtain ⟨e, he, q⟩ := List.mem_map.mp (pm.mem_iff.mp hv)
    obtain ⟨tk, h1, _⟩ := g e he
    rw [← q]
    exact ⟨tk, h1⟩
  have pk : (vs.map tagOf).Perm l := by
    have q := pm.map tagOf
    rw [List.map_map] at q
    exact q.trans hp
  have hvl : vs.length = l.length := by rw [← pk.length_eq, List.length_map]
  refine wpAny_bind (wpAny_newList ?_ (by rw [hvl, sizeLine_eq]; omega))
  have hoL : (s1.heap.push (seqObj "list" vs.toArray 0)).get? s1.heap.objs.size = some (seqObj "list" vs.toArray 0) := Heap.get?_push_size _ rfl
  refine wpAny_bind (wpAny_holding (wpAny_call_entry slot_list_sort ⟨_, hoL, rfl⟩ entry_list_sort
    (list_sort_treeK strKind_oneLt hoL hS.keysOf (fun v₁ v₂ rest e => keyKind_strs (by rw [← e]; exact hS)) (by rw [hvl]; exact h64) fun st' a1 a2 => ⟨_, rfl, ?_⟩) (args_list_sort _)))
  obtain ⟨ys, b1, b2, b3⟩ := sorted_out_str hS a1 a2
  obtain ⟨c, hc⟩ := sortedHeap_at (vs := vs) (out := (arrOf st').map (·.2)) hoL
  refine wpAny_pure ⟨_, rfl, fin _ s1.heap.objs.size _ c ys (fun b u e => ?_) g1 o1 hz hc b1 (b2.trans pk) b3⟩
  have q := k1 b u e
  have hlt := Heap.lt_size q
  show (sortedHeap (s1.heap.push (seqObj "list" vs.toArray 0)) s1.heap.objs.size vs _).get? b = some u
  rw [sortedHeap_old (Nat.ne_of_lt hlt) (by rw [size_push']; exact Nat.lt_succ_of_lt hlt)]
  exact Heap.get?_push_of_some _ q
end

end L2
namespace L2
open PySem PySem.Spec PyProof.Rows
/-! over the abstract heap -/
def SetS (P : Program) (w : World) (a : Addr) (l : List Str) : HO := .ext fun h => TxSet P w h a l
section
variable {X : Cx}
def rSetS (X : Cx) : List V → Hp → VK → Prop := fun vs H Q => ∃ (a : Addr) (xs : List Str), vs = [V.ref a] ∧ (SqL X.K H a (xs.map V.str) ∨ SqT X.K H a (xs.map V.str)) ∧ xs.length + 1 < scanBound ∧
  ∀ p, H p = none → Q (.ref p) (upd H p (SetS X.prog X.w p (once [] xs)))
theorem cr_setS (hc : X.calm = true) : CallR X (.type "set") (rSetS X) := by
  intro pins s σ H vs us Q I r h
  obtain ⟨a, xs, rfl, hs, hb, q⟩ := h
  rw [Vals.ref1 r]
  have key : ∀ (h' : Heap) (tk : Nat), TxSet X.prog X.w h' s.heap.objs.size (once [] xs) → (∀ b o, s.heap.get? b = some o → h'.get? b = some o) →
      EP X pins σ Q (.ref s.heap.objs.size) { s with heap := h', toks := tk } := fun h' tk R k => by
    have hn : H s.heap.objs.size = none := I.hok.fresh (Nat.le_refl _)
    refine ⟨.ref _, _, I.laid (t' := tk) k (Nat.le_refl _) ?_, rfl, q _ hn⟩
    refine ⟨R, ?_, fun h1 h2 z kk => z.stay kk⟩
    obtain ⟨o, _, _, _, ho, _⟩ := R
    exact ⟨o, ho⟩
  rcases hs with hs | hs
  · obtain ⟨its, rv, hl, _⟩ := I.list hs
    exact tx_call_list xs (I.ok.hd hc) hl.isList rv.strs hb key
  · obtain ⟨its, rv, hl, _⟩ := I.tuple hs
    exact tx_call_tuple xs (I.ok.hd hc) (show s.heap.IsTuple a its.toArray from hl) rv.strs hb key
def rSortedSetS (X : Cx) : List V → Hp → VK → Prop := fun vs H Q => ∃ (a : Addr) (l : List Str), vs = [V.ref a] ∧ H a = some (SetS X.prog X.w a l) ∧ l.length < 64 ∧
  ∀ (ys : List Str) (p : Addr), ys.Perm l → sortedS ys = true → H p = none → Q (.ref p) (upd H p (.lst (ys.map V.str)))
theorem cr_sortedSetS (hc : X.calm = true) : CallR X (.builtin "sorted") (rSortedSetS X) := by
  intro pins s σ H vs us Q I r h
  obtain ⟨a, l, rfl, ha, h64, q⟩ := h
  have R : TxSet X.prog X.w s.heap a l := (I.hok a _ ha).1
  rw [Vals.ref1 r]
  refine tx_sorted R (I.ok.hd hc) h64 fun s' p out c ys k g o hp hg hi hs hm => ?_
  have hlen : (ys.map V.str).length ≤ sizeLine := by rw [List.length_map, hs.length_eq, sizeLine_eq]; omega
  have hn : H p = none := I.hok.fresh hp
  have J : Inv X pins σ (upd H p (.lst (ys.map V.str))) { s with heap := s'.heap, gens := s'.gens, drawn := s'.drawn, toks := s'.toks } :=
    I.call (ch := []) (Un.laid k hp hn) (I.hok.laid k hp ⟨hlen, out.toList, c, vals_of_strs hi, hg⟩) (by rw [g]; exact I.bare) (fun _ z => nomatch z)
  have e : s' = { s with heap := s'.heap, gens := s'.gens, drawn := s'.drawn, toks := s'.toks } := by
    cases s'
    cases s
    cases o
    rfl
  rw [e]
  exact ⟨.ref p, _, J, rfl, q ys p hs hm hn⟩
end
end L2
/-! what all the laws' proofs share: the list that draws, data, names -/
namespace L2
open PySem PySem.Spec PyProof.Rows
section
variable {X : Cx} {CX : CXT} {k : Nat} {f : Addr} {fd : FuncData} {ps ks : List Str} {sp : Sp} {E : XK} {x : Str} {p pos : Pos} {kws : List Keyword} {tk : TA} {g : List Value → List Value → List Value} {gV : List V → List V → List V}
/-- f(k = v, ..), no argument by place -/
theorem pe_callK0 (F : FnOk X.prog X.w X.K X.mg X.base CX k f fd ps sp) (hr : Room k X.A) (hg : Gl X x) (hm : X.mg x = some (.ref f)) (hk : PySem.W.keepIn X.K (.ref f) = true) (hb : KBinds X.K fd ps ks g gV) (hx : Passes CX X E)
    (hkw : PK X kws tk) (hall : (backToKw pos (keywordEach kws X.env)).all (·.1.isSome) = true := by rfl) (hks : (backToKw pos (keywordEach kws X.env)).filterMap (·.1) = ks := by rfl)
    (hdb : (x == ("__debug__" : Str)) = false := by decide) (hpl : ((backTo pos (starEach [] X.env)).any (·.1) || (backToKw pos (keywordEach kws X.env)).any (·.1.isNone)) = false := by rfl) :
    PE X (.Call (.Name x p) [] kws pos) (tCallK sp gV E tNil tk) := by
  refine ⟨fun pins s σ H Q I h => ?_⟩
  refine wpAny_Call_Name_kw (ld_glob I hg hm ?_ hdb)
  refine PySem.W.callWith_KW0 (h₀ := X.base) I.ok.mod.kin hk hall ?_ hpl
  refine thn (hkw.run pos pins s σ H _ I h) fun ws s2 ⟨zs, H2, I2, rz, q2⟩ => ⟨I2.kIn, ?_⟩
  rw [hks]
  exact run_fnk (us := []) (vs := []) F hr hb hx I2 .nil rz q2
end
end L2

namespace Th
open PySem PySem.Spec PyProof.Rows L2
def topS (i : Nat) : Stmt := PySem.Challenge.pw_threeorders_k00_errors_by_themselves.main.body.getD i (.Pass ⟨0, 0, 0, 0⟩)
abbrev s_l_start : Stmt := topS 42
abbrev s_l_draw : Stmt := topS 43
abbrev s_l_pick : Stmt := topS 44
abbrev s_l_odd : Stmt := topS 47
abbrev s_l_letters : Stmt := topS 45
abbrev s_l_word : Stmt := topS 46
abbrev s_p_copied : Stmt := topS 1
abbrev s_c_InvalidName_init : Stmt := inClass (topS 4) 0
abbrev s_c_InvalidLot_init : Stmt := inClass (topS 5) 0
abbrev s_c_InvalidFind_init : Stmt := inClass (topS 6) 0
abbrev s_c_InvalidWord_init : Stmt := inClass (topS 7) 0
abbrev s_c_InvalidFact_init : Stmt := inClass (topS 8) 0
abbrev s_c_InvalidOrder_init : Stmt := inClass (topS 9) 0
abbrev s_c_InvalidKind_init : Stmt := inClass (topS 10) 0
abbrev s_c_InvalidPair_init : Stmt := inClass (topS 11) 0
abbrev s_c_InvalidDeed_init : Stmt := inClass (topS 12) 0
abbrev s_c_InvalidText_init : Stmt := inClass (topS 13) 0
abbrev s_c_InvalidNumber_init : Stmt := inClass (topS 14) 0
abbrev s_c_InvalidStatement_init : Stmt := inClass (topS 15) 0
abbrev s_c_InvalidQuestion_init : Stmt := inClass (topS 16) 0
abbrev s_c_InvalidClaim_init : Stmt := inClass (topS 17) 0
abbrev s_c_InvalidTimes_init : Stmt := inClass (topS 18) 0
abbrev s_c_InvalidWeights_init : Stmt := inClass (topS 19) 0
abbrev s_c_DuplicateName_init : Stmt := inClass (topS 20) 0
abbrev s_c_TooMany_init : Stmt := inClass (topS 21) 0
abbrev s_c_TooFew_init : Stmt := inClass (topS 22) 0
abbrev s_c_CannotStand_init : Stmt := inClass (topS 23) 0
abbrev s_c_Standing_init : Stmt := inClass (topS 24) 0
abbrev s_c_Clash_init : Stmt := inClass (topS 25) 0
abbrev s_c_NotFitting_init : Stmt := inClass (topS 26) 0
abbrev s_c_NotShown_init : Stmt := inClass (topS 27) 0
abbrev s_c_NotABlock_init : Stmt := inClass (topS 28) 0
abbrev s_c_OtherFinds_init : Stmt := inClass (topS 29) 0
abbrev s_c_Same_init : Stmt := inClass (topS 30) 0
abbrev s_c_NoTable_init : Stmt := inClass (topS 31) 0
abbrev s_c_Taken_init : Stmt := inClass (topS 32) 0
abbrev s_c_InUse_init : Stmt := inClass (topS 33) 0
abbrev s_c_NoFinds_init : Stmt := inClass (topS 34) 0
abbrev s_c_UnknownName_init : Stmt := inClass (topS 36) 0
abbrev s_c_UnknownFind_init : Stmt := inClass (topS 37) 0
abbrev s_c_UnknownNode_init : Stmt := inClass (topS 38) 0
abbrev s_c_UnknownKept_init : Stmt := inClass (topS 39) 0
abbrev s_c_NothingLeft_init : Stmt := inClass (topS 40) 0
abbrev s_l_by_place : Stmt := topS 50
abbrev s_l_by_name : Stmt := topS 51
abbrev s_l_same : Stmt := topS 48
abbrev s_l_raised : Stmt := topS 57
abbrev s_l_codes : Stmt := topS 49
abbrev s_l_told : Stmt := topS 53
abbrev s_l_due : Stmt := topS 52
abbrev s_l_kinds : Stmt := topS 54
abbrev s_l_bases : Stmt := topS 55
abbrev s_l_all_so : Stmt := topS 56
abbrev s_p_law : Stmt := topS 58
def errN : List Str := [Str.ofString "InvalidName", Str.ofString "InvalidLot", Str.ofString "InvalidFind", Str.ofString "InvalidWord", Str.ofString "InvalidFact", Str.ofString "InvalidOrder", Str.ofString "InvalidKind", Str.ofString "InvalidPair", Str.ofString "InvalidDeed", Str.ofString "InvalidText", Str.ofString "InvalidNumber", Str.ofString "InvalidStatement", Str.ofString "InvalidQuestion", Str.ofString "InvalidClaim", Str.ofString "InvalidTimes", Str.ofString "InvalidWeights", Str.ofString "DuplicateName", Str.ofString "TooMany", Str.ofString "TooFew", Str.ofString "CannotStand", Str.ofString "Standing", Str.ofString "Clash", Str.ofString "NotFitting", Str.ofString "NotShown", Str.ofString "NotABlock", Str.ofString "OtherFinds", Str.ofString "Same", Str.ofString "NoTable", Str.ofString "Taken", Str.ofString "InUse", Str.ofString "NoFinds", Str.ofString "UnknownName", Str.ofString "UnknownFind", Str.ofString "UnknownNode", Str.ofString "UnknownKept", Str.ofString "NothingLeft"]
def findB (n : Str) : Bool := decide (n ∈ errN.take 31)
def missB (n : Str) : Bool := decide (n ∈ (errN.drop 31).take 4)
def lastB (n : Str) : Bool := decide (n = "NothingLeft")
def excB (K : PySem.W.Frag) (D : Addr) : Bool := decide (PySem.W.findIn K (.ref D) "__getattribute__" = some (some (.builtin "BaseException.__getattribute__"))) && (decide (PySem.W.findIn K (.ref D) "__getattr__" = some none) && (decide (PySem.W.subIn K (.ref D) (.type "BaseException") = some true) && (PySem.W.hasDictIn K D && (decide (PySem.W.findIn K (.ref D) "__class__" = some (some (.builtin "object.__class__"))) && (decide (PySem.W.specialIn K (.builtin "object.__class__") "__get__" = some (some (.builtin "getset_descriptor.__get__"))) && (decide (PySem.W.takesIn K (.builtin "object.__class__") = some true) && decide (PySem.W.mroIn K D (.type "object") = some true)))))))
def spLawK (K : PySem.W.Frag) : Sp := fun vs H Q _ => ∃ (a : Addr) (ns : List Int), vs = [.ref a] ∧ SqL K H a (ns.map V.int) ∧ ns.length ≤ 63 ∧ ∀ H', Q (.bl true) H'
end Th
namespace Th
open PySem PySem.Spec PyProof.Rows L2
theorem walk {l : PySem.W.OpenLaw} {q : Program} {loose : List Str} {XP : (Str → Option Value) → Heap → Prop} {YP : World → Heap → Prop} {d : DefRec} {K : Params → PySem.W.Frag} (hn : l.most = some 63) (hdf : d.params.defaults = [])
    (hY : ∀ (w : World) (h : Heap), YP w h → (K w.params).In h)
    (F : ∀ (w : World) (mg : Str → Option Value) (fa : Addr) (h : Heap), (K w.params).In h → h.Ns mainGlobals mg → mg d.name = some (.ref fa) →
      ∃ fd : FuncData, (∀ (s : Shared) (u : Value), BindsTo s fd ⟨[u], []⟩ [("_law_script", u)]) ∧ ∀ base : Heap, (K w.params).In base → base.Ns mainGlobals mg → FnOk l.prog w (K w.params) mg base CX0 15 fa fd ["_law_script"] (spLawK (K w.params))) :
    PySem.W.WalkO q loose XP YP l.row.toRowW d [] (fun f vs => PySem.call f vs) :=
  L2.walk_of (n := 63) (k := 15) (x := "_law_script") (CX := fun _ => CX0) (sp := fun w => spLawK (K w.params)) hn (by decide) hdf ⟨rfl, by decide, by decide⟩ hY F (fun _ _ a ns hl _ hS => ⟨a, ns, rfl, hS, hl, fun _ => rfl⟩) fun _ _ _ _ _ z => z
end Th
namespace Th
open PySem PySem.Spec PyProof.Rows L2
def AllMk : Prop := ∀ {l : PySem.W.OpenLaw} {w : World} {K : PySem.W.Frag} {h : Heap} {mg : Str → Option Value} {fa : Addr} (X : K.In h) (G : h.Ns mainGlobals mg) 
        {f0 : Addr} {od0 an0 : Option Addr} {sl0 : Array (Option Value)} {oc0 kV0 dc0 pm0 ct0 : Value} {cd0 : Value}
        {f1 : Addr} {od1 an1 : Option Addr} {sl1 : Array (Option Value)} {oc1 kV1 dc1 pm1 ct1 : Value} {cd1 : Value}
        {f2 : Addr} {od2 an2 : Option Addr} {sl2 : Array (Option Value)} {oc2 kV2 dc2 pm2 ct2 : Value} {cd2 : Value}
        {f3 : Addr} {od3 an3 : Option Addr} {sl3 : Array (Option Value)} {oc3 kV3 dc3 pm3 ct3 : Value} {cd3 : Value}
        {f4 : Addr} {od4 an4 : Option Addr} {sl4 : Array (Option Value)} {oc4 kV4 dc4 pm4 ct4 : Value} {cd4 : Value}
        {f5 : Addr} {od5 an5 : Option Addr} {sl5 : Array (Option Value)} {oc5 kV5 dc5 pm5 ct5 : Value} {cd5 : Value}
        {f6 : Addr} {od6 an6 : Option Addr} {sl6 : Array (Option Value)} {oc6 kV6 dc6 pm6 ct6 : Value} {cd6 : Value}
        {f7 : Addr} {od7 an7 : Option Addr} {sl7 : Array (Option Value)} {oc7 kV7 dc7 pm7 ct7 : Value} {cd7 : Value}
        {f8 : Addr} {od8 an8 : Option Addr} {sl8 : Array (Option Value)} {oc8 kV8 dc8 pm8 ct8 : Value} {cd8 : Value}
        {f9 : Addr} {od9 an9 : Option Addr} {sl9 : Array (Option Value)} {oc9 kV9 dc9 pm9 ct9 : Value} {cd9 : Value}
        {f10 : Addr} {od10 an10 : Option Addr} {sl10 : Array (Option Value)} {oc10 kV10 dc10 pm10 ct10 : Value} {cd10 : Value}
        {f11 : Addr} {od11 an11 : Option Addr} {sl11 : Array (Option Value)} {oc11 kV11 dc11 pm11 ct11 : Value} {cd11 : Value}
        {f12 : Addr} {od12 an12 : Option Addr} {sl12 : Array (Option Value)} {oc12 kV12 dc12 pm12 ct12 : Value} {cd12 : Value}
        {f13 : Addr} {od13 an13 : Option Addr} {sl13 : Array (Option Value)} {oc13 kV13 dc13 pm13 ct13 : Value} {cd13 : Value}
        {f14 : Addr} {od14 an14 : Option Addr} {sl14 : Array (Option Value)} {oc14 kV14 dc14 pm14 ct14 : Value} {cd14 : Value}
        {f15 : Addr} {od15 an15 : Option Addr} {sl15 : Array (Option Value)} {oc15 kV15 dc15 pm15 ct15 : Value} {cd15 : Value}
        {f16 : Addr} {od16 an16 : Option Addr} {sl16 : Array (Option Value)} {oc16 kV16 dc16 pm16 ct16 : Value} {cd16 : Value}
        {f17 : Addr} {od17 an17 : Option Addr} {sl17 : Array (Option Value)} {oc17 kV17 dc17 pm17 ct17 : Value} {cd17 : Value}
        {b1 : Addr}
        {b2 : Addr}
        {C18 f18 : Addr} {od18 an18 : Option Addr} {sl18 : Array (Option Value)} {oc18 kV18 dc18 pm18 cd18 ct18 : Value}
        {C19 f19 : Addr} {od19 an19 : Option Addr} {sl19 : Array (Option Value)} {oc19 kV19 dc19 pm19 cd19 ct19 : Value}
        {C20 f20 : Addr} {od20 an20 : Option Addr} {sl20 : Array (Option Value)} {oc20 kV20 dc20 pm20 cd20 ct20 : Value}
        {C21 f21 : Addr} {od21 an21 : Option Addr} {sl21 : Array (Option Value)} {oc21 kV21 dc21 pm21 cd21 ct21 : Value}
        {C22 f22 : Addr} {od22 an22 : Option Addr} {sl22 : Array (Option Value)} {oc22 kV22 dc22 pm22 cd22 ct22 : Value}
        {C23 f23 : Addr} {od23 an23 : Option Addr} {sl23 : Array (Option Value)} {oc23 kV23 dc23 pm23 cd23 ct23 : Value}
        {C24 f24 : Addr} {od24 an24 : Option Addr} {sl24 : Array (Option Value)} {oc24 kV24 dc24 pm24 cd24 ct24 : Value}
        {C25 f25 : Addr} {od25 an25 : Option Addr} {sl25 : Array (Option Value)} {oc25 kV25 dc25 pm25 cd25 ct25 : Value}
        {C26 f26 : Addr} {od26 an26 : Option Addr} {sl26 : Array (Option Value)} {oc26 kV26 dc26 pm26 cd26 ct26 : Value}
        {C27 f27 : Addr} {od27 an27 : Option Addr} {sl27 : Array (Option Value)} {oc27 kV27 dc27 pm27 cd27 ct27 : Value}
        {C28 f28 : Addr} {od28 an28 : Option Addr} {sl28 : Array (Option Value)} {oc28 kV28 dc28 pm28 cd28 ct28 : Value}
        {C29 f29 : Addr} {od29 an29 : Option Addr} {sl29 : Array (Option Value)} {oc29 kV29 dc29 pm29 cd29 ct29 : Value}
        {C30 f30 : Addr} {od30 an30 : Option Addr} {sl30 : Array (Option Value)} {oc30 kV30 dc30 pm30 cd30 ct30 : Value}
        {C31 f31 : Addr} {od31 an31 : Option Addr} {sl31 : Array (Option Value)} {oc31 kV31 dc31 pm31 cd31 ct31 : Value}
        {C32 f32 : Addr} {od32 an32 : Option Addr} {sl32 : Array (Option Value)} {oc32 kV32 dc32 pm32 cd32 ct32 : Value}
        {C33 f33 : Addr} {od33 an33 : Option Addr} {sl33 : Array (Option Value)} {oc33 kV33 dc33 pm33 cd33 ct33 : Value}
        {C34 f34 : Addr} {od34 an34 : Option Addr} {sl34 : Array (Option Value)} {oc34 kV34 dc34 pm34 cd34 ct34 : Value}
        {C35 f35 : Addr} {od35 an35 : Option Addr} {sl35 : Array (Option Value)} {oc35 kV35 dc35 pm35 cd35 ct35 : Value}
        {C36 f36 : Addr} {od36 an36 : Option Addr} {sl36 : Array (Option Value)} {oc36 kV36 dc36 pm36 cd36 ct36 : Value}
        {C37 f37 : Addr} {od37 an37 : Option Addr} {sl37 : Array (Option Value)} {oc37 kV37 dc37 pm37 cd37 ct37 : Value}
        {C38 f38 : Addr} {od38 an38 : Option Addr} {sl38 : Array (Option Value)} {oc38 kV38 dc38 pm38 cd38 ct38 : Value}
        {C39 f39 : Addr} {od39 an39 : Option Addr} {sl39 : Array (Option Value)} {oc39 kV39 dc39 pm39 cd39 ct39 : Value}
        {C40 f40 : Addr} {od40 an40 : Option Addr} {sl40 : Array (Option Value)} {oc40 kV40 dc40 pm40 cd40 ct40 : Value}
        {C41 f41 : Addr} {od41 an41 : Option Addr} {sl41 : Array (Option Value)} {oc41 kV41 dc41 pm41 cd41 ct41 : Value}
        {C42 f42 : Addr} {od42 an42 : Option Addr} {sl42 : Array (Option Value)} {oc42 kV42 dc42 pm42 cd42 ct42 : Value}
        {C43 f43 : Addr} {od43 an43 : Option Addr} {sl43 : Array (Option Value)} {oc43 kV43 dc43 pm43 cd43 ct43 : Value}
        {C44 f44 : Addr} {od44 an44 : Option Addr} {sl44 : Array (Option Value)} {oc44 kV44 dc44 pm44 cd44 ct44 : Value}
        {C45 f45 : Addr} {od45 an45 : Option Addr} {sl45 : Array (Option Value)} {oc45 kV45 dc45 pm45 cd45 ct45 : Value}
        {C46 f46 : Addr} {od46 an46 : Option Addr} {sl46 : Array (Option Value)} {oc46 kV46 dc46 pm46 cd46 ct46 : Value}
        {C47 f47 : Addr} {od47 an47 : Option Addr} {sl47 : Array (Option Value)} {oc47 kV47 dc47 pm47 cd47 ct47 : Value}
        {C48 f48 : Addr} {od48 an48 : Option Addr} {sl48 : Array (Option Value)} {oc48 kV48 dc48 pm48 cd48 ct48 : Value}
        {C49 f49 : Addr} {od49 an49 : Option Addr} {sl49 : Array (Option Value)} {oc49 kV49 dc49 pm49 cd49 ct49 : Value}
        {C50 f50 : Addr} {od50 an50 : Option Addr} {sl50 : Array (Option Value)} {oc50 kV50 dc50 pm50 cd50 ct50 : Value}
        {C51 f51 : Addr} {od51 an51 : Option Addr} {sl51 : Array (Option Value)} {oc51 kV51 dc51 pm51 cd51 ct51 : Value}
        {C52 f52 : Addr} {od52 an52 : Option Addr} {sl52 : Array (Option Value)} {oc52 kV52 dc52 pm52 cd52 ct52 : Value}
        {C53 f53 : Addr} {od53 an53 : Option Addr} {sl53 : Array (Option Value)} {oc53 kV53 dc53 pm53 cd53 ct53 : Value}
        
        
        
        
        
        
        
        
        
        (hfa : mg "law" = some (.ref fa))
        (a0 : PySem.W.nsIn K mainGlobals "copied" = some (some (.ref f0))) (l0 : K.lookup f0 = some ⟨oc0, od0, .func (PySem.W.fnOf "copied" "copied" (defArgs s_p_copied) (defBody s_p_copied) (defScope s_p_copied) .none kV0 dc0 pm0 an0 cd0 ct0), sl0⟩) (c0 : PySem.W.codeIn K cd0 "copied" = true) (k0 : PySem.W.keepIn K (.ref f0) = true)
        (a1 : PySem.W.nsIn K mainGlobals "_law_start" = some (some (.ref f1))) (l1 : K.lookup f1 = some ⟨oc1, od1, .func (PySem.W.fnOf "_law_start" "_law_start" (defArgs s_l_start) (defBody s_l_start) (defScope s_l_start) .none kV1 dc1 pm1 an1 cd1 ct1), sl1⟩) (c1 : PySem.W.codeIn K cd1 "_law_start" = true) (k1 : PySem.W.keepIn K (.ref f1) = true)
        (a2 : PySem.W.nsIn K mainGlobals "_law_draw" = some (some (.ref f2))) (l2 : K.lookup f2 = some ⟨oc2, od2, .func (PySem.W.fnOf "_law_draw" "_law_draw" (defArgs s_l_draw) (defBody s_l_draw) (defScope s_l_draw) .none kV2 dc2 pm2 an2 cd2 ct2), sl2⟩) (c2 : PySem.W.codeIn K cd2 "_law_draw" = true) (k2 : PySem.W.keepIn K (.ref f2) = true)
        (a3 : PySem.W.nsIn K mainGlobals "_law_pick" = some (some (.ref f3))) (l3 : K.lookup f3 = some ⟨oc3, od3, .func (PySem.W.fnOf "_law_pick" "_law_pick" (defArgs s_l_pick) (defBody s_l_pick) (defScope s_l_pick) .none kV3 dc3 pm3 an3 cd3 ct3), sl3⟩) (c3 : PySem.W.codeIn K cd3 "_law_pick" = true) (k3 : PySem.W.keepIn K (.ref f3) = true)
        (a4 : PySem.W.nsIn K mainGlobals "_law_letters" = some (some (.ref f4))) (l4 : K.lookup f4 = some ⟨oc4, od4, .func (PySem.W.fnOf "_law_letters" "_law_letters" (defArgs s_l_letters) (defBody s_l_letters) (defScope s_l_letters) .none kV4 dc4 pm4 an4 cd4 ct4), sl4⟩) (c4 : PySem.W.codeIn K cd4 "_law_letters" = true) (k4 : PySem.W.keepIn K (.ref f4) = true)
        (a5 : PySem.W.nsIn K mainGlobals "_law_word" = some (some (.ref f5))) (l5 : K.lookup f5 = some ⟨oc5, od5, .func (PySem.W.fnOf "_law_word" "_law_word" (defArgs s_l_word) (defBody s_l_word) (defScope s_l_word) .none kV5 dc5 pm5 an5 cd5 ct5), sl5⟩) (c5 : PySem.W.codeIn K cd5 "_law_word" = true) (k5 : PySem.W.keepIn K (.ref f5) = true)
        (a6 : PySem.W.nsIn K mainGlobals "_law_odd" = some (some (.ref f6))) (l6 : K.lookup f6 = some ⟨oc6, od6, .func (PySem.W.fnOf "_law_odd" "_law_odd" (defArgs s_l_odd) (defBody s_l_odd) (defScope s_l_odd) .none kV6 dc6 pm6 an6 cd6 ct6), sl6⟩) (c6 : PySem.W.codeIn K cd6 "_law_odd" = true) (k6 : PySem.W.keepIn K (.ref f6) = true)
        (a7 : PySem.W.nsIn K mainGlobals "_law_same" = some (some (.ref f7))) (l7 : K.lookup f7 = some ⟨oc7, od7, .func (PySem.W.fnOf "_law_same" "_law_same" (defArgs s_l_same) (defBody s_l_same) (defScope s_l_same) .none kV7 dc7 pm7 an7 cd7 ct7), sl7⟩) (c7 : PySem.W.codeIn K cd7 "_law_same" = true) (k7 : PySem.W.keepIn K (.ref f7) = true)
        (a8 : PySem.W.nsIn K mainGlobals "_law_codes" = some (some (.ref f8))) (l8 : K.lookup f8 = some ⟨oc8, od8, .func (PySem.W.fnOf "_law_codes" "_law_codes" (defArgs s_l_codes) (defBody s_l_codes) (defScope s_l_codes) .none kV8 dc8 pm8 an8 cd8 ct8), sl8⟩) (c8 : PySem.W.codeIn K cd8 "_law_codes" = true) (k8 : PySem.W.keepIn K (.ref f8) = true)
        (a9 : PySem.W.nsIn K mainGlobals "_law_by_place" = some (some (.ref f9))) (l9 : K.lookup f9 = some ⟨oc9, od9, .func (PySem.W.fnOf "_law_by_place" "_law_by_place" (defArgs s_l_by_place) (defBody s_l_by_place) (defScope s_l_by_place) .none kV9 dc9 pm9 an9 cd9 ct9), sl9⟩) (c9 : PySem.W.codeIn K cd9 "_law_by_place" = true) (k9 : PySem.W.keepIn K (.ref f9) = true)
        (a10 : PySem.W.nsIn K mainGlobals "_law_by_name" = some (some (.ref f10))) (l10 : K.lookup f10 = some ⟨oc10, od10, .func (PySem.W.fnOf "_law_by_name" "_law_by_name" (defArgs s_l_by_name) (defBody s_l_by_name) (defScope s_l_by_name) .none kV10 dc10 pm10 an10 cd10 ct10), sl10⟩) (c10 : PySem.W.codeIn K cd10 "_law_by_name" = true) (k10 : PySem.W.keepIn K (.ref f10) = true)
        (a11 : PySem.W.nsIn K mainGlobals "_law_due" = some (some (.ref f11))) (l11 : K.lookup f11 = some ⟨oc11, od11, .func (PySem.W.fnOf "_law_due" "_law_due" (defArgs s_l_due) (defBody s_l_due) (defScope s_l_due) .none kV11 dc11 pm11 an11 cd11 ct11), sl11⟩) (c11 : PySem.W.codeIn K cd11 "_law_due" = true) (k11 : PySem.W.keepIn K (.ref f11) = true)
        (a12 : PySem.W.nsIn K mainGlobals "_law_told" = some (some (.ref f12))) (l12 : K.lookup f12 = some ⟨oc12, od12, .func (PySem.W.fnOf "_law_told" "_law_told" (defArgs s_l_told) (defBody s_l_told) (defScope s_l_told) .none kV12 dc12 pm12 an12 cd12 ct12), sl12⟩) (c12 : PySem.W.codeIn K cd12 "_law_told" = true) (k12 : PySem.W.keepIn K (.ref f12) = true)
        (a13 : PySem.W.nsIn K mainGlobals "_law_kinds" = some (some (.ref f13))) (l13 : K.lookup f13 = some ⟨oc13, od13, .func (PySem.W.fnOf "_law_kinds" "_law_kinds" (defArgs s_l_kinds) (defBody s_l_kinds) (defScope s_l_kinds) .none kV13 dc13 pm13 an13 cd13 ct13), sl13⟩) (c13 : PySem.W.codeIn K cd13 "_law_kinds" = true) (k13 : PySem.W.keepIn K (.ref f13) = true)
        (a14 : PySem.W.nsIn K mainGlobals "_law_bases" = some (some (.ref f14))) (l14 : K.lookup f14 = some ⟨oc14, od14, .func (PySem.W.fnOf "_law_bases" "_law_bases" (defArgs s_l_bases) (defBody s_l_bases) (defScope s_l_bases) .none kV14 dc14 pm14 an14 cd14 ct14), sl14⟩) (c14 : PySem.W.codeIn K cd14 "_law_bases" = true) (k14 : PySem.W.keepIn K (.ref f14) = true)
        (a15 : PySem.W.nsIn K mainGlobals "_law_all_so" = some (some (.ref f15))) (l15 : K.lookup f15 = some ⟨oc15, od15, .func (PySem.W.fnOf "_law_all_so" "_law_all_so" (defArgs s_l_all_so) (defBody s_l_all_so) (defScope s_l_all_so) .none kV15 dc15 pm15 an15 cd15 ct15), sl15⟩) (c15 : PySem.W.codeIn K cd15 "_law_all_so" = true) (k15 : PySem.W.keepIn K (.ref f15) = true)
        (a16 : PySem.W.nsIn K mainGlobals "_law_raised" = some (some (.ref f16))) (l16 : K.lookup f16 = some ⟨oc16, od16, .func (PySem.W.fnOf "_law_raised" "_law_raised" (defArgs s_l_raised) (defBody s_l_raised) (defScope s_l_raised) .none kV16 dc16 pm16 an16 cd16 ct16), sl16⟩) (c16 : PySem.W.codeIn K cd16 "_law_raised" = true) (k16 : PySem.W.keepIn K (.ref f16) = true)
        (a17 : PySem.W.nsIn K mainGlobals "law" = some (some (.ref f17))) (l17 : K.lookup f17 = some ⟨oc17, od17, .func (PySem.W.fnOf "law" "law" (defArgs s_p_law) (defBody s_p_law) (defScope s_p_law) .none kV17 dc17 pm17 an17 cd17 ct17), sl17⟩) (c17 : PySem.W.codeIn K cd17 "law" = true) (k17 : PySem.W.keepIn K (.ref f17) = true)
        (z_len : PySem.W.nsIn K mainGlobals "len" = some none)
        (z_range : PySem.W.nsIn K mainGlobals "range" = some none)
        (z_int : PySem.W.nsIn K mainGlobals "int" = some none)
        (z_abs : PySem.W.nsIn K mainGlobals "abs" = some none)
        (z_isinstance : PySem.W.nsIn K mainGlobals "isinstance" = some none)
        (z_all : PySem.W.nsIn K mainGlobals "all" = some none)
        (z_any : PySem.W.nsIn K mainGlobals "any" = some none)
        (z_sorted : PySem.W.nsIn K mainGlobals "sorted" = some none)
        (z_set : PySem.W.nsIn K mainGlobals "set" = some none)
        (z_list : PySem.W.nsIn K mainGlobals "list" = some none)
        (z_tuple : PySem.W.nsIn K mainGlobals "tuple" = some none)
        (z_str : PySem.W.nsIn K mainGlobals "str" = some none)
        (z_bool : PySem.W.nsIn K mainGlobals "bool" = some none)
        (z_enumerate : PySem.W.nsIn K mainGlobals "enumerate" = some none)
        (z_min : PySem.W.nsIn K mainGlobals "min" = some none)
        (z_max : PySem.W.nsIn K mainGlobals "max" = some none)
        (ab1 : PySem.W.nsIn K mainGlobals "FindError" = some (some (.ref b1)))
        (ab2 : PySem.W.nsIn K mainGlobals "Missing" = some (some (.ref b2)))
        (a18 : PySem.W.nsIn K mainGlobals "InvalidName" = some (some (.ref C18)))
        (ei18 : PySem.W.excInitIn K C18 [.type "ValueError", .type "Exception", .type "BaseException", .type "object"] "ValueError.__new__" = true)
        (eo18 : PySem.W.excOver K C18 [.type "ValueError", .type "Exception", .type "BaseException", .type "object"] = true)
        (sa18 : PySem.W.findIn K (.ref C18) "__setattr__" = some (some (.builtin "object.__setattr__")))
        (ex18 : PySem.W.subIn K (.ref C18) (.type "BaseException") = some true)
        (ty18 : PySem.W.typeIn K (.ref C18) = some (.type "type"))
        (kC18 : PySem.W.keepIn K (.ref C18) = true)
        (hd18 : PySem.W.hasDictIn K C18 = true)
        (ga18 : PySem.W.findIn K (.ref C18) "__getattribute__" = some (some (.builtin "BaseException.__getattribute__")))
        (gg18 : PySem.W.findIn K (.ref C18) "__getattr__" = some none)
        (in18 : PySem.W.findIn K (.ref C18) "__init__" = some (some (.ref f18)))
        (ti18 : PySem.W.typeIn K (.ref f18) = some (.type "function"))
        (l18 : K.lookup f18 = some ⟨oc18, od18, .func (PySem.W.fnOf "__init__" "InvalidName.__init__" (defArgs s_c_InvalidName_init) (defBody s_c_InvalidName_init) (defScope s_c_InvalidName_init) .none kV18 dc18 pm18 an18 cd18 ct18), sl18⟩) (c18 : PySem.W.codeIn K cd18 "InvalidName.__init__" = true) (k18 : PySem.W.keepIn K (.ref f18) = true)
        (nf18_0 : PySem.W.findIn K (.ref C18) "value" = some none)
        (nf18_1 : PySem.W.findIn K (.ref C18) "code" = some none)
        (a19 : PySem.W.nsIn K mainGlobals "InvalidLot" = some (some (.ref C19)))
        (ei19 : PySem.W.excInitIn K C19 [.type "ValueError", .type "Exception", .type "BaseException", .type "object"] "ValueError.__new__" = true)
        (eo19 : PySem.W.excOver K C19 [.type "ValueError", .type "Exception", .type "BaseException", .type "object"] = true)
        (sa19 : PySem.W.findIn K (.ref C19) "__setattr__" = some (some (.builtin "object.__setattr__")))
        (ex19 : PySem.W.subIn K (.ref C19) (.type "BaseException") = some true)
        (ty19 : PySem.W.typeIn K (.ref C19) = some (.type "type"))
        (kC19 : PySem.W.keepIn K (.ref C19) = true)
        (hd19 : PySem.W.hasDictIn K C19 = true)
        (ga19 : PySem.W.findIn K (.ref C19) "__getattribute__" = some (some (.builtin "BaseException.__getattribute__")))
        (gg19 : PySem.W.findIn K (.ref C19) "__getattr__" = some none)
        (in19 : PySem.W.findIn K (.ref C19) "__init__" = some (some (.ref f19)))
        (ti19 : PySem.W.typeIn K (.ref f19) = some (.type "function"))
        (l19 : K.lookup f19 = some ⟨oc19, od19, .func (PySem.W.fnOf "__init__" "InvalidLot.__init__" (defArgs s_c_InvalidLot_init) (defBody s_c_InvalidLot_init) (defScope s_c_InvalidLot_init) .none kV19 dc19 pm19 an19 cd19 ct19), sl19⟩) (c19 : PySem.W.codeIn K cd19 "InvalidLot.__init__" = true) (k19 : PySem.W.keepIn K (.ref f19) = true)
        (nf19_0 : PySem.W.findIn K (.ref C19) "at" = some none)
        (nf19_1 : PySem.W.findIn K (.ref C19) "code" = some none)
        (a20 : PySem.W.nsIn K mainGlobals "InvalidFind" = some (some (.ref C20)))
        (ei20 : PySem.W.excInitIn K C20 [.type "ValueError", .type "Exception", .type "BaseException", .type "object"] "ValueError.__new__" = true)
        (eo20 : PySem.W.excOver K C20 [.type "ValueError", .type "Exception", .type "BaseException", .type "object"] = true)
        (sa20 : PySem.W.findIn K (.ref C20) "__setattr__" = some (some (.builtin "object.__setattr__")))
        (ex20 : PySem.W.subIn K (.ref C20) (.type "BaseException") = some true)
        (ty20 : PySem.W.typeIn K (.ref C20) = some (.type "type"))
        (kC20 : PySem.W.keepIn K (.ref C20) = true)
        (hd20 : PySem.W.hasDictIn K C20 = true)
        (ga20 : PySem.W.findIn K (.ref C20) "__getattribute__" = some (some (.builtin "BaseException.__getattribute__")))
        (gg20 : PySem.W.findIn K (.ref C20) "__getattr__" = some none)
        (in20 : PySem.W.findIn K (.ref C20) "__init__" = some (some (.ref f20)))
        (ti20 : PySem.W.typeIn K (.ref f20) = some (.type "function"))
        (l20 : K.lookup f20 = some ⟨oc20, od20, .func (PySem.W.fnOf "__init__" "InvalidFind.__init__" (defArgs s_c_InvalidFind_init) (defBody s_c_InvalidFind_init) (defScope s_c_InvalidFind_init) .none kV20 dc20 pm20 an20 cd20 ct20), sl20⟩) (c20 : PySem.W.codeIn K cd20 "InvalidFind.__init__" = true) (k20 : PySem.W.keepIn K (.ref f20) = true)
        (nf20_0 : PySem.W.findIn K (.ref C20) "at" = some none)
        (nf20_1 : PySem.W.findIn K (.ref C20) "code" = some none)
        (a21 : PySem.W.nsIn K mainGlobals "InvalidWord" = some (some (.ref C21)))
        (ei21 : PySem.W.excInitIn K C21 [.type "ValueError", .type "Exception", .type "BaseException", .type "object"] "ValueError.__new__" = true)
        (eo21 : PySem.W.excOver K C21 [.type "ValueError", .type "Exception", .type "BaseException", .type "object"] = true)
        (sa21 : PySem.W.findIn K (.ref C21) "__setattr__" = some (some (.builtin "object.__setattr__")))
        (ex21 : PySem.W.subIn K (.ref C21) (.type "BaseException") = some true)
        (ty21 : PySem.W.typeIn K (.ref C21) = some (.type "type"))
        (kC21 : PySem.W.keepIn K (.ref C21) = true)
        (hd21 : PySem.W.hasDictIn K C21 = true)
        (ga21 : PySem.W.findIn K (.ref C21) "__getattribute__" = some (some (.builtin "BaseException.__getattribute__")))
        (gg21 : PySem.W.findIn K (.ref C21) "__getattr__" = some none)
        (in21 : PySem.W.findIn K (.ref C21) "__init__" = some (some (.ref f21)))
        (ti21 : PySem.W.typeIn K (.ref f21) = some (.type "function"))
        (l21 : K.lookup f21 = some ⟨oc21, od21, .func (PySem.W.fnOf "__init__" "InvalidWord.__init__" (defArgs s_c_InvalidWord_init) (defBody s_c_InvalidWord_init) (defScope s_c_InvalidWord_init) .none kV21 dc21 pm21 an21 cd21 ct21), sl21⟩) (c21 : PySem.W.codeIn K cd21 "InvalidWord.__init__" = true) (k21 : PySem.W.keepIn K (.ref f21) = true)
        (nf21_0 : PySem.W.findIn K (.ref C21) "at" = some none)
        (nf21_1 : PySem.W.findIn K (.ref C21) "code" = some none)
        (a22 : PySem.W.nsIn K mainGlobals "InvalidFact" = some (some (.ref C22)))
        (ei22 : PySem.W.excInitIn K C22 [.type "ValueError", .type "Exception", .type "BaseException", .type "object"] "ValueError.__new__" = true)
        (eo22 : PySem.W.excOver K C22 [.type "ValueError", .type "Exception", .type "BaseException", .type "object"] = true)
        (sa22 : PySem.W.findIn K (.ref C22) "__setattr__" = some (some (.builtin "object.__setattr__")))
        (ex22 : PySem.W.subIn K (.ref C22) (.type "BaseException") = some true)
        (ty22 : PySem.W.typeIn K (.ref C22) = some (.type "type"))
        (kC22 : PySem.W.keepIn K (.ref C22) = true)
        (hd22 : PySem.W.hasDictIn K C22 = true)
        (ga22 : PySem.W.findIn K (.ref C22) "__getattribute__" = some (some (.builtin "BaseException.__getattribute__")))
        (gg22 : PySem.W.findIn K (.ref C22) "__getattr__" = some none)
        (in22 : PySem.W.findIn K (.ref C22) "__init__" = some (some (.ref f22)))
        (ti22 : PySem.W.typeIn K (.ref f22) = some (.type "function"))
        (l22 : K.lookup f22 = some ⟨oc22, od22, .func (PySem.W.fnOf "__init__" "InvalidFact.__init__" (defArgs s_c_InvalidFact_init) (defBody s_c_InvalidFact_init) (defScope s_c_InvalidFact_init) .none kV22 dc22 pm22 an22 cd22 ct22), sl22⟩) (c22 : PySem.W.codeIn K cd22 "InvalidFact.__init__" = true) (k22 : PySem.W.keepIn K (.ref f22) = true)
        (nf22_0 : PySem.W.findIn K (.ref C22) "at" = some none)
        (nf22_1 : PySem.W.findIn K (.ref C22) "code" = some none)
        (a23 : PySem.W.nsIn K mainGlobals "InvalidOrder" = some (some (.ref C23)))
        (ei23 : PySem.W.excInitIn K C23 [.type "ValueError", .type "Exception", .type "BaseException", .type "object"] "ValueError.__new__" = true)
        (eo23 : PySem.W.excOver K C23 [.type "ValueError", .type "Exception", .type "BaseException", .type "object"] = true)
        (sa23 : PySem.W.findIn K (.ref C23) "__setattr__" = some (some (.builtin "object.__setattr__")))
        (ex23 : PySem.W.subIn K (.ref C23) (.type "BaseException") = some true)
        (ty23 : PySem.W.typeIn K (.ref C23) = some (.type "type"))
        (kC23 : PySem.W.keepIn K (.ref C23) = true)
        (hd23 : PySem.W.hasDictIn K C23 = true)
        (ga23 : PySem.W.findIn K (.ref C23) "__getattribute__" = some (some (.builtin "BaseException.__getattribute__")))
        (gg23 : PySem.W.findIn K (.ref C23) "__getattr__" = some none)
        (in23 : PySem.W.findIn K (.ref C23) "__init__" = some (some (.ref f23)))
        (ti23 : PySem.W.typeIn K (.ref f23) = some (.type "function"))
        (l23 : K.lookup f23 = some ⟨oc23, od23, .func (PySem.W.fnOf "__init__" "InvalidOrder.__init__" (defArgs s_c_InvalidOrder_init) (defBody s_c_InvalidOrder_init) (defScope s_c_InvalidOrder_init) .none kV23 dc23 pm23 an23 cd23 ct23), sl23⟩) (c23 : PySem.W.codeIn K cd23 "InvalidOrder.__init__" = true) (k23 : PySem.W.keepIn K (.ref f23) = true)
        (nf23_0 : PySem.W.findIn K (.ref C23) "at" = some none)
        (nf23_1 : PySem.W.findIn K (.ref C23) "code" = some none)
        (a24 : PySem.W.nsIn K mainGlobals "InvalidKind" = some (some (.ref C24)))
        (ei24 : PySem.W.excInitIn K C24 [.type "ValueError", .type "Exception", .type "BaseException", .type "object"] "ValueError.__new__" = true)
        (eo24 : PySem.W.excOver K C24 [.type "ValueError", .type "Exception", .type "BaseException", .type "object"] = true)
        (sa24 : PySem.W.findIn K (.ref C24) "__setattr__" = some (some (.builtin "object.__setattr__")))
        (ex24 : PySem.W.subIn K (.ref C24) (.type "BaseException") = some true)
        (ty24 : PySem.W.typeIn K (.ref C24) = some (.type "type"))
        (kC24 : PySem.W.keepIn K (.ref C24) = true)
        (hd24 : PySem.W.hasDictIn K C24 = true)
        (ga24 : PySem.W.findIn K (.ref C24) "__getattribute__" = some (some (.builtin "BaseException.__getattribute__")))
        (gg24 : PySem.W.findIn K (.ref C24) "__getattr__" = some none)
        (in24 : PySem.W.findIn K (.ref C24) "__init__" = some (some (.ref f24)))
        (ti24 : PySem.W.typeIn K (.ref f24) = some (.type "function"))
        (l24 : K.lookup f24 = some ⟨oc24, od24, .func (PySem.W.fnOf "__init__" "InvalidKind.__init__" (defArgs s_c_InvalidKind_init) (defBody s_c_InvalidKind_init) (defScope s_c_InvalidKind_init) .none kV24 dc24 pm24 an24 cd24 ct24), sl24⟩) (c24 : PySem.W.codeIn K cd24 "InvalidKind.__init__" = true) (k24 : PySem.W.keepIn K (.ref f24) = true)
        (nf24_0 : PySem.W.findIn K (.ref C24) "at" = some none)
        (nf24_1 : PySem.W.findIn K (.ref C24) "code" = some none)
        (a25 : PySem.W.nsIn K mainGlobals "InvalidPair" = some (some (.ref C25)))
        (ei25 : PySem.W.excInitIn K C25 [.type "ValueError", .type "Exception", .type "BaseException", .type "object"] "ValueError.__new__" = true)
        (eo25 : PySem.W.excOver K C25 [.type "ValueError", .type "Exception", .type "BaseException", .type "object"] = true)
        (sa25 : PySem.W.findIn K (.ref C25) "__setattr__" = some (some (.builtin "object.__setattr__")))
        (ex25 : PySem.W.subIn K (.ref C25) (.type "BaseException") = some true)
        (ty25 : PySem.W.typeIn K (.ref C25) = some (.type "type"))
        (kC25 : PySem.W.keepIn K (.ref C25) = true)
        (hd25 : PySem.W.hasDictIn K C25 = true)
        (ga25 : PySem.W.findIn K (.ref C25) "__getattribute__" = some (some (.builtin "BaseException.__getattribute__")))
        (gg25 : PySem.W.findIn K (.ref C25) "__getattr__" = some none)
        (in25 : PySem.W.findIn K (.ref C25) "__init__" = some (some (.ref f25)))
        (ti25 : PySem.W.typeIn K (.ref f25) = some (.type "function"))
        (l25 : K.lookup f25 = some ⟨oc25, od25, .func (PySem.W.fnOf "__init__" "InvalidPair.__init__" (defArgs s_c_InvalidPair_init) (defBody s_c_InvalidPair_init) (defScope s_c_InvalidPair_init) .none kV25 dc25 pm25 an25 cd25 ct25), sl25⟩) (c25 : PySem.W.codeIn K cd25 "InvalidPair.__init__" = true) (k25 : PySem.W.keepIn K (.ref f25) = true)
        (nf25_0 : PySem.W.findIn K (.ref C25) "at" = some none)
        (nf25_1 : PySem.W.findIn K (.ref C25) "code" = some none)
        (a26 : PySem.W.nsIn K mainGlobals "InvalidDeed" = some (some (.ref C26)))
        (ei26 : PySem.W.excInitIn K C26 [.type "ValueError", .type "Exception", .type "BaseException", .type "object"] "ValueError.__new__" = true)
        (eo26 : PySem.W.excOver K C26 [.type "ValueError", .type "Exception", .type "BaseException", .type "object"] = true)
        (sa26 : PySem.W.findIn K (.ref C26) "__setattr__" = some (some (.builtin "object.__setattr__")))
        (ex26 : PySem.W.subIn K (.ref C26) (.type "BaseException") = some true)
        (ty26 : PySem.W.typeIn K (.ref C26) = some (.type "type"))
        (kC26 : PySem.W.keepIn K (.ref C26) = true)
        (hd26 : PySem.W.hasDictIn K C26 = true)
        (ga26 : PySem.W.findIn K (.ref C26) "__getattribute__" = some (some (.builtin "BaseException.__getattribute__")))
        (gg26 : PySem.W.findIn K (.ref C26) "__getattr__" = some none)
        (in26 : PySem.W.findIn K (.ref C26) "__init__" = some (some (.ref f26)))
        (ti26 : PySem.W.typeIn K (.ref f26) = some (.type "function"))
        (l26 : K.lookup f26 = some ⟨oc26, od26, .func (PySem.W.fnOf "__init__" "InvalidDeed.__init__" (defArgs s_c_InvalidDeed_init) (defBody s_c_InvalidDeed_init) (defScope s_c_InvalidDeed_init) .none kV26 dc26 pm26 an26 cd26 ct26), sl26⟩) (c26 : PySem.W.codeIn K cd26 "InvalidDeed.__init__" = true) (k26 : PySem.W.keepIn K (.ref f26) = true)
        (nf26_0 : PySem.W.findIn K (.ref C26) "at" = some none)
        (nf26_1 : PySem.W.findIn K (.ref C26) "code" = some none)
        (a27 : PySem.W.nsIn K mainGlobals "InvalidText" = some (some (.ref C27)))
        (ei27 : PySem.W.excInitIn K C27 [.type "ValueError", .type "Exception", .type "BaseException", .type "object"] "ValueError.__new__" = true)
        (eo27 : PySem.W.excOver K C27 [.type "ValueError", .type "Exception", .type "BaseException", .type "object"] = true)
        (sa27 : PySem.W.findIn K (.ref C27) "__setattr__" = some (some (.builtin "object.__setattr__")))
        (ex27 : PySem.W.subIn K (.ref C27) (.type "BaseException") = some true)
        (ty27 : PySem.W.typeIn K (.ref C27) = some (.type "type"))
        (kC27 : PySem.W.keepIn K (.ref C27) = true)
        (hd27 : PySem.W.hasDictIn K C27 = true)
        (ga27 : PySem.W.findIn K (.ref C27) "__getattribute__" = some (some (.builtin "BaseException.__getattribute__")))
        (gg27 : PySem.W.findIn K (.ref C27) "__getattr__" = some none)
        (in27 : PySem.W.findIn K (.ref C27) "__init__" = some (some (.ref f27)))
        (ti27 : PySem.W.typeIn K (.ref f27) = some (.type "function"))
        (l27 : K.lookup f27 = some ⟨oc27, od27, .func (PySem.W.fnOf "__init__" "InvalidText.__init__" (defArgs s_c_InvalidText_init) (defBody s_c_InvalidText_init) (defScope s_c_InvalidText_init) .none kV27 dc27 pm27 an27 cd27 ct27), sl27⟩) (c27 : PySem.W.codeIn K cd27 "InvalidText.__init__" = true) (k27 : PySem.W.keepIn K (.ref f27) = true)
        (nf27_0 : PySem.W.findIn K (.ref C27) "line" = some none)
        (nf27_1 : PySem.W.findIn K (.ref C27) "why" = some none)
        (nf27_2 : PySem.W.findIn K (.ref C27) "code" = some none)
        (a28 : PySem.W.nsIn K mainGlobals "InvalidNumber" = some (some (.ref C28)))
        (ei28 : PySem.W.excInitIn K C28 [.type "ValueError", .type "Exception", .type "BaseException", .type "object"] "ValueError.__new__" = true)
        (eo28 : PySem.W.excOver K C28 [.type "ValueError", .type "Exception", .type "BaseException", .type "object"] = true)
        (sa28 : PySem.W.findIn K (.ref C28) "__setattr__" = some (some (.builtin "object.__setattr__")))
        (ex28 : PySem.W.subIn K (.ref C28) (.type "BaseException") = some true)
        (ty28 : PySem.W.typeIn K (.ref C28) = some (.type "type"))
        (kC28 : PySem.W.keepIn K (.ref C28) = true)
        (hd28 : PySem.W.hasDictIn K C28 = true)
        (ga28 : PySem.W.findIn K (.ref C28) "__getattribute__" = some (some (.builtin "BaseException.__getattribute__")))
        (gg28 : PySem.W.findIn K (.ref C28) "__getattr__" = some none)
        (in28 : PySem.W.findIn K (.ref C28) "__init__" = some (some (.ref f28)))
        (ti28 : PySem.W.typeIn K (.ref f28) = some (.type "function"))
        (l28 : K.lookup f28 = some ⟨oc28, od28, .func (PySem.W.fnOf "__init__" "InvalidNumber.__init__" (defArgs s_c_InvalidNumber_init) (defBody s_c_InvalidNumber_init) (defScope s_c_InvalidNumber_init) .none kV28 dc28 pm28 an28 cd28 ct28), sl28⟩) (c28 : PySem.W.codeIn K cd28 "InvalidNumber.__init__" = true) (k28 : PySem.W.keepIn K (.ref f28) = true)
        (nf28_0 : PySem.W.findIn K (.ref C28) "value" = some none)
        (nf28_1 : PySem.W.findIn K (.ref C28) "code" = some none)
        (a29 : PySem.W.nsIn K mainGlobals "InvalidStatement" = some (some (.ref C29)))
        (ei29 : PySem.W.excInitIn K C29 [.type "ValueError", .type "Exception", .type "BaseException", .type "object"] "ValueError.__new__" = true)
        (eo29 : PySem.W.excOver K C29 [.type "ValueError", .type "Exception", .type "BaseException", .type "object"] = true)
        (sa29 : PySem.W.findIn K (.ref C29) "__setattr__" = some (some (.builtin "object.__setattr__")))
        (ex29 : PySem.W.subIn K (.ref C29) (.type "BaseException") = some true)
        (ty29 : PySem.W.typeIn K (.ref C29) = some (.type "type"))
        (kC29 : PySem.W.keepIn K (.ref C29) = true)
        (hd29 : PySem.W.hasDictIn K C29 = true)
        (ga29 : PySem.W.findIn K (.ref C29) "__getattribute__" = some (some (.builtin "BaseException.__getattribute__")))
        (gg29 : PySem.W.findIn K (.ref C29) "__getattr__" = some none)
        (in29 : PySem.W.findIn K (.ref C29) "__init__" = some (some (.ref f29)))
        (ti29 : PySem.W.typeIn K (.ref f29) = some (.type "function"))
        (l29 : K.lookup f29 = some ⟨oc29, od29, .func (PySem.W.fnOf "__init__" "InvalidStatement.__init__" (defArgs s_c_InvalidStatement_init) (defBody s_c_InvalidStatement_init) (defScope s_c_InvalidStatement_init) .none kV29 dc29 pm29 an29 cd29 ct29), sl29⟩) (c29 : PySem.W.codeIn K cd29 "InvalidStatement.__init__" = true) (k29 : PySem.W.keepIn K (.ref f29) = true)
        (nf29_0 : PySem.W.findIn K (.ref C29) "code" = some none)
        (a30 : PySem.W.nsIn K mainGlobals "InvalidQuestion" = some (some (.ref C30)))
        (ei30 : PySem.W.excInitIn K C30 [.type "ValueError", .type "Exception", .type "BaseException", .type "object"] "ValueError.__new__" = true)
        (eo30 : PySem.W.excOver K C30 [.type "ValueError", .type "Exception", .type "BaseException", .type "object"] = true)
        (sa30 : PySem.W.findIn K (.ref C30) "__setattr__" = some (some (.builtin "object.__setattr__")))
        (ex30 : PySem.W.subIn K (.ref C30) (.type "BaseException") = some true)
        (ty30 : PySem.W.typeIn K (.ref C30) = some (.type "type"))
        (kC30 : PySem.W.keepIn K (.ref C30) = true)
        (hd30 : PySem.W.hasDictIn K C30 = true)
        (ga30 : PySem.W.findIn K (.ref C30) "__getattribute__" = some (some (.builtin "BaseException.__getattribute__")))
        (gg30 : PySem.W.findIn K (.ref C30) "__getattr__" = some none)
        (in30 : PySem.W.findIn K (.ref C30) "__init__" = some (some (.ref f30)))
        (ti30 : PySem.W.typeIn K (.ref f30) = some (.type "function"))
        (l30 : K.lookup f30 = some ⟨oc30, od30, .func (PySem.W.fnOf "__init__" "InvalidQuestion.__init__" (defArgs s_c_InvalidQuestion_init) (defBody s_c_InvalidQuestion_init) (defScope s_c_InvalidQuestion_init) .none kV30 dc30 pm30 an30 cd30 ct30), sl30⟩) (c30 : PySem.W.codeIn K cd30 "InvalidQuestion.__init__" = true) (k30 : PySem.W.keepIn K (.ref f30) = true)
        (nf30_0 : PySem.W.findIn K (.ref C30) "code" = some none)
        (a31 : PySem.W.nsIn K mainGlobals "InvalidClaim" = some (some (.ref C31)))
        (ei31 : PySem.W.excInitIn K C31 [.type "ValueError", .type "Exception", .type "BaseException", .type "object"] "ValueError.__new__" = true)
        (eo31 : PySem.W.excOver K C31 [.type "ValueError", .type "Exception", .type "BaseException", .type "object"] = true)
        (sa31 : PySem.W.findIn K (.ref C31) "__setattr__" = some (some (.builtin "object.__setattr__")))
        (ex31 : PySem.W.subIn K (.ref C31) (.type "BaseException") = some true)
        (ty31 : PySem.W.typeIn K (.ref C31) = some (.type "type"))
        (kC31 : PySem.W.keepIn K (.ref C31) = true)
        (hd31 : PySem.W.hasDictIn K C31 = true)
        (ga31 : PySem.W.findIn K (.ref C31) "__getattribute__" = some (some (.builtin "BaseException.__getattribute__")))
        (gg31 : PySem.W.findIn K (.ref C31) "__getattr__" = some none)
        (in31 : PySem.W.findIn K (.ref C31) "__init__" = some (some (.ref f31)))
        (ti31 : PySem.W.typeIn K (.ref f31) = some (.type "function"))
        (l31 : K.lookup f31 = some ⟨oc31, od31, .func (PySem.W.fnOf "__init__" "InvalidClaim.__init__" (defArgs s_c_InvalidClaim_init) (defBody s_c_InvalidClaim_init) (defScope s_c_InvalidClaim_init) .none kV31 dc31 pm31 an31 cd31 ct31), sl31⟩) (c31 : PySem.W.codeIn K cd31 "InvalidClaim.__init__" = true) (k31 : PySem.W.keepIn K (.ref f31) = true)
        (nf31_0 : PySem.W.findIn K (.ref C31) "code" = some none)
        (a32 : PySem.W.nsIn K mainGlobals "InvalidTimes" = some (some (.ref C32)))
        (ei32 : PySem.W.excInitIn K C32 [.type "ValueError", .type "Exception", .type "BaseException", .type "object"] "ValueError.__new__" = true)
        (eo32 : PySem.W.excOver K C32 [.type "ValueError", .type "Exception", .type "BaseException", .type "object"] = true)
        (sa32 : PySem.W.findIn K (.ref C32) "__setattr__" = some (some (.builtin "object.__setattr__")))
        (ex32 : PySem.W.subIn K (.ref C32) (.type "BaseException") = some true)
        (ty32 : PySem.W.typeIn K (.ref C32) = some (.type "type"))
        (kC32 : PySem.W.keepIn K (.ref C32) = true)
        (hd32 : PySem.W.hasDictIn K C32 = true)
        (ga32 : PySem.W.findIn K (.ref C32) "__getattribute__" = some (some (.builtin "BaseException.__getattribute__")))
        (gg32 : PySem.W.findIn K (.ref C32) "__getattr__" = some none)
        (in32 : PySem.W.findIn K (.ref C32) "__init__" = some (some (.ref f32)))
        (ti32 : PySem.W.typeIn K (.ref f32) = some (.type "function"))
        (l32 : K.lookup f32 = some ⟨oc32, od32, .func (PySem.W.fnOf "__init__" "InvalidTimes.__init__" (defArgs s_c_InvalidTimes_init) (defBody s_c_InvalidTimes_init) (defScope s_c_InvalidTimes_init) .none kV32 dc32 pm32 an32 cd32 ct32), sl32⟩) (c32 : PySem.W.codeIn K cd32 "InvalidTimes.__init__" = true) (k32 : PySem.W.keepIn K (.ref f32) = true)
        (nf32_0 : PySem.W.findIn K (.ref C32) "name" = some none)
        (nf32_1 : PySem.W.findIn K (.ref C32) "code" = some none)
        (a33 : PySem.W.nsIn K mainGlobals "InvalidWeights" = some (some (.ref C33)))
        (ei33 : PySem.W.excInitIn K C33 [.type "ValueError", .type "Exception", .type "BaseException", .type "object"] "ValueError.__new__" = true)
        (eo33 : PySem.W.excOver K C33 [.type "ValueError", .type "Exception", .type "BaseException", .type "object"] = true)
        (sa33 : PySem.W.findIn K (.ref C33) "__setattr__" = some (some (.builtin "object.__setattr__")))
        (ex33 : PySem.W.subIn K (.ref C33) (.type "BaseException") = some true)
        (ty33 : PySem.W.typeIn K (.ref C33) = some (.type "type"))
        (kC33 : PySem.W.keepIn K (.ref C33) = true)
        (hd33 : PySem.W.hasDictIn K C33 = true)
        (ga33 : PySem.W.findIn K (.ref C33) "__getattribute__" = some (some (.builtin "BaseException.__getattribute__")))
        (gg33 : PySem.W.findIn K (.ref C33) "__getattr__" = some none)
        (in33 : PySem.W.findIn K (.ref C33) "__init__" = some (some (.ref f33)))
        (ti33 : PySem.W.typeIn K (.ref f33) = some (.type "function"))
        (l33 : K.lookup f33 = some ⟨oc33, od33, .func (PySem.W.fnOf "__init__" "InvalidWeights.__init__" (defArgs s_c_InvalidWeights_init) (defBody s_c_InvalidWeights_init) (defScope s_c_InvalidWeights_init) .none kV33 dc33 pm33 an33 cd33 ct33), sl33⟩) (c33 : PySem.W.codeIn K cd33 "InvalidWeights.__init__" = true) (k33 : PySem.W.keepIn K (.ref f33) = true)
        (nf33_0 : PySem.W.findIn K (.ref C33) "name" = some none)
        (nf33_1 : PySem.W.findIn K (.ref C33) "code" = some none)
        (a34 : PySem.W.nsIn K mainGlobals "DuplicateName" = some (some (.ref C34)))
        (ei34 : PySem.W.excInitIn K C34 [.type "ValueError", .type "Exception", .type "BaseException", .type "object"] "ValueError.__new__" = true)
        (eo34 : PySem.W.excOver K C34 [.type "ValueError", .type "Exception", .type "BaseException", .type "object"] = true)
        (sa34 : PySem.W.findIn K (.ref C34) "__setattr__" = some (some (.builtin "object.__setattr__")))
        (ex34 : PySem.W.subIn K (.ref C34) (.type "BaseException") = some true)
        (ty34 : PySem.W.typeIn K (.ref C34) = some (.type "type"))
        (kC34 : PySem.W.keepIn K (.ref C34) = true)
        (hd34 : PySem.W.hasDictIn K C34 = true)
        (ga34 : PySem.W.findIn K (.ref C34) "__getattribute__" = some (some (.builtin "BaseException.__getattribute__")))
        (gg34 : PySem.W.findIn K (.ref C34) "__getattr__" = some none)
        (in34 : PySem.W.findIn K (.ref C34) "__init__" = some (some (.ref f34)))
        (ti34 : PySem.W.typeIn K (.ref f34) = some (.type "function"))
        (l34 : K.lookup f34 = some ⟨oc34, od34, .func (PySem.W.fnOf "__init__" "DuplicateName.__init__" (defArgs s_c_DuplicateName_init) (defBody s_c_DuplicateName_init) (defScope s_c_DuplicateName_init) .none kV34 dc34 pm34 an34 cd34 ct34), sl34⟩) (c34 : PySem.W.codeIn K cd34 "DuplicateName.__init__" = true) (k34 : PySem.W.keepIn K (.ref f34) = true)
        (nf34_0 : PySem.W.findIn K (.ref C34) "name" = some none)
        (nf34_1 : PySem.W.findIn K (.ref C34) "code" = some none)
        (a35 : PySem.W.nsIn K mainGlobals "TooMany" = some (some (.ref C35)))
        (ei35 : PySem.W.excInitIn K C35 [.type "ValueError", .type "Exception", .type "BaseException", .type "object"] "ValueError.__new__" = true)
        (eo35 : PySem.W.excOver K C35 [.type "ValueError", .type "Exception", .type "BaseException", .type "object"] = true)
        (sa35 : PySem.W.findIn K (.ref C35) "__setattr__" = some (some (.builtin "object.__setattr__")))
        (ex35 : PySem.W.subIn K (.ref C35) (.type "BaseException") = some true)
        (ty35 : PySem.W.typeIn K (.ref C35) = some (.type "type"))
        (kC35 : PySem.W.keepIn K (.ref C35) = true)
        (hd35 : PySem.W.hasDictIn K C35 = true)
        (ga35 : PySem.W.findIn K (.ref C35) "__getattribute__" = some (some (.builtin "BaseException.__getattribute__")))
        (gg35 : PySem.W.findIn K (.ref C35) "__getattr__" = some none)
        (in35 : PySem.W.findIn K (.ref C35) "__init__" = some (some (.ref f35)))
        (ti35 : PySem.W.typeIn K (.ref f35) = some (.type "function"))
        (l35 : K.lookup f35 = some ⟨oc35, od35, .func (PySem.W.fnOf "__init__" "TooMany.__init__" (defArgs s_c_TooMany_init) (defBody s_c_TooMany_init) (defScope s_c_TooMany_init) .none kV35 dc35 pm35 an35 cd35 ct35), sl35⟩) (c35 : PySem.W.codeIn K cd35 "TooMany.__init__" = true) (k35 : PySem.W.keepIn K (.ref f35) = true)
        (nf35_0 : PySem.W.findIn K (.ref C35) "most" = some none)
        (nf35_1 : PySem.W.findIn K (.ref C35) "code" = some none)
        (a36 : PySem.W.nsIn K mainGlobals "TooFew" = some (some (.ref C36)))
        (ei36 : PySem.W.excInitIn K C36 [.type "ValueError", .type "Exception", .type "BaseException", .type "object"] "ValueError.__new__" = true)
        (eo36 : PySem.W.excOver K C36 [.type "ValueError", .type "Exception", .type "BaseException", .type "object"] = true)
        (sa36 : PySem.W.findIn K (.ref C36) "__setattr__" = some (some (.builtin "object.__setattr__")))
        (ex36 : PySem.W.subIn K (.ref C36) (.type "BaseException") = some true)
        (ty36 : PySem.W.typeIn K (.ref C36) = some (.type "type"))
        (kC36 : PySem.W.keepIn K (.ref C36) = true)
        (hd36 : PySem.W.hasDictIn K C36 = true)
        (ga36 : PySem.W.findIn K (.ref C36) "__getattribute__" = some (some (.builtin "BaseException.__getattribute__")))
        (gg36 : PySem.W.findIn K (.ref C36) "__getattr__" = some none)
        (in36 : PySem.W.findIn K (.ref C36) "__init__" = some (some (.ref f36)))
        (ti36 : PySem.W.typeIn K (.ref f36) = some (.type "function"))
        (l36 : K.lookup f36 = some ⟨oc36, od36, .func (PySem.W.fnOf "__init__" "TooFew.__init__" (defArgs s_c_TooFew_init) (defBody s_c_TooFew_init) (defScope s_c_TooFew_init) .none kV36 dc36 pm36 an36 cd36 ct36), sl36⟩) (c36 : PySem.W.codeIn K cd36 "TooFew.__init__" = true) (k36 : PySem.W.keepIn K (.ref f36) = true)
        (nf36_0 : PySem.W.findIn K (.ref C36) "least" = some none)
        (nf36_1 : PySem.W.findIn K (.ref C36) "code" = some none)
        (a37 : PySem.W.nsIn K mainGlobals "CannotStand" = some (some (.ref C37)))
        (ei37 : PySem.W.excInitIn K C37 [.type "ValueError", .type "Exception", .type "BaseException", .type "object"] "ValueError.__new__" = true)
        (eo37 : PySem.W.excOver K C37 [.type "ValueError", .type "Exception", .type "BaseException", .type "object"] = true)
        (sa37 : PySem.W.findIn K (.ref C37) "__setattr__" = some (some (.builtin "object.__setattr__")))
        (ex37 : PySem.W.subIn K (.ref C37) (.type "BaseException") = some true)
        (ty37 : PySem.W.typeIn K (.ref C37) = some (.type "type"))
        (kC37 : PySem.W.keepIn K (.ref C37) = true)
        (hd37 : PySem.W.hasDictIn K C37 = true)
        (ga37 : PySem.W.findIn K (.ref C37) "__getattribute__" = some (some (.builtin "BaseException.__getattribute__")))
        (gg37 : PySem.W.findIn K (.ref C37) "__getattr__" = some none)
        (in37 : PySem.W.findIn K (.ref C37) "__init__" = some (some (.ref f37)))
        (ti37 : PySem.W.typeIn K (.ref f37) = some (.type "function"))
        (l37 : K.lookup f37 = some ⟨oc37, od37, .func (PySem.W.fnOf "__init__" "CannotStand.__init__" (defArgs s_c_CannotStand_init) (defBody s_c_CannotStand_init) (defScope s_c_CannotStand_init) .none kV37 dc37 pm37 an37 cd37 ct37), sl37⟩) (c37 : PySem.W.codeIn K cd37 "CannotStand.__init__" = true) (k37 : PySem.W.keepIn K (.ref f37) = true)
        (nf37_0 : PySem.W.findIn K (.ref C37) "one" = some none)
        (nf37_1 : PySem.W.findIn K (.ref C37) "two" = some none)
        (nf37_2 : PySem.W.findIn K (.ref C37) "three" = some none)
        (nf37_3 : PySem.W.findIn K (.ref C37) "code" = some none)
        (a38 : PySem.W.nsIn K mainGlobals "Standing" = some (some (.ref C38)))
        (ei38 : PySem.W.excInitIn K C38 [.type "ValueError", .type "Exception", .type "BaseException", .type "object"] "ValueError.__new__" = true)
        (eo38 : PySem.W.excOver K C38 [.type "ValueError", .type "Exception", .type "BaseException", .type "object"] = true)
        (sa38 : PySem.W.findIn K (.ref C38) "__setattr__" = some (some (.builtin "object.__setattr__")))
        (ex38 : PySem.W.subIn K (.ref C38) (.type "BaseException") = some true)
        (ty38 : PySem.W.typeIn K (.ref C38) = some (.type "type"))
        (kC38 : PySem.W.keepIn K (.ref C38) = true)
        (hd38 : PySem.W.hasDictIn K C38 = true)
        (ga38 : PySem.W.findIn K (.ref C38) "__getattribute__" = some (some (.builtin "BaseException.__getattribute__")))
        (gg38 : PySem.W.findIn K (.ref C38) "__getattr__" = some none)
        (in38 : PySem.W.findIn K (.ref C38) "__init__" = some (some (.ref f38)))
        (ti38 : PySem.W.typeIn K (.ref f38) = some (.type "function"))
        (l38 : K.lookup f38 = some ⟨oc38, od38, .func (PySem.W.fnOf "__init__" "Standing.__init__" (defArgs s_c_Standing_init) (defBody s_c_Standing_init) (defScope s_c_Standing_init) .none kV38 dc38 pm38 an38 cd38 ct38), sl38⟩) (c38 : PySem.W.codeIn K cd38 "Standing.__init__" = true) (k38 : PySem.W.keepIn K (.ref f38) = true)
        (nf38_0 : PySem.W.findIn K (.ref C38) "code" = some none)
        (a39 : PySem.W.nsIn K mainGlobals "Clash" = some (some (.ref C39)))
        (ei39 : PySem.W.excInitIn K C39 [.type "ValueError", .type "Exception", .type "BaseException", .type "object"] "ValueError.__new__" = true)
        (eo39 : PySem.W.excOver K C39 [.type "ValueError", .type "Exception", .type "BaseException", .type "object"] = true)
        (sa39 : PySem.W.findIn K (.ref C39) "__setattr__" = some (some (.builtin "object.__setattr__")))
        (ex39 : PySem.W.subIn K (.ref C39) (.type "BaseException") = some true)
        (ty39 : PySem.W.typeIn K (.ref C39) = some (.type "type"))
        (kC39 : PySem.W.keepIn K (.ref C39) = true)
        (hd39 : PySem.W.hasDictIn K C39 = true)
        (ga39 : PySem.W.findIn K (.ref C39) "__getattribute__" = some (some (.builtin "BaseException.__getattribute__")))
        (gg39 : PySem.W.findIn K (.ref C39) "__getattr__" = some none)
        (in39 : PySem.W.findIn K (.ref C39) "__init__" = some (some (.ref f39)))
        (ti39 : PySem.W.typeIn K (.ref f39) = some (.type "function"))
        (l39 : K.lookup f39 = some ⟨oc39, od39, .func (PySem.W.fnOf "__init__" "Clash.__init__" (defArgs s_c_Clash_init) (defBody s_c_Clash_init) (defScope s_c_Clash_init) .none kV39 dc39 pm39 an39 cd39 ct39), sl39⟩) (c39 : PySem.W.codeIn K cd39 "Clash.__init__" = true) (k39 : PySem.W.keepIn K (.ref f39) = true)
        (nf39_0 : PySem.W.findIn K (.ref C39) "marks" = some none)
        (nf39_1 : PySem.W.findIn K (.ref C39) "code" = some none)
        (a40 : PySem.W.nsIn K mainGlobals "NotFitting" = some (some (.ref C40)))
        (ei40 : PySem.W.excInitIn K C40 [.type "ValueError", .type "Exception", .type "BaseException", .type "object"] "ValueError.__new__" = true)
        (eo40 : PySem.W.excOver K C40 [.type "ValueError", .type "Exception", .type "BaseException", .type "object"] = true)
        (sa40 : PySem.W.findIn K (.ref C40) "__setattr__" = some (some (.builtin "object.__setattr__")))
        (ex40 : PySem.W.subIn K (.ref C40) (.type "BaseException") = some true)
        (ty40 : PySem.W.typeIn K (.ref C40) = some (.type "type"))
        (kC40 : PySem.W.keepIn K (.ref C40) = true)
        (hd40 : PySem.W.hasDictIn K C40 = true)
        (ga40 : PySem.W.findIn K (.ref C40) "__getattribute__" = some (some (.builtin "BaseException.__getattribute__")))
        (gg40 : PySem.W.findIn K (.ref C40) "__getattr__" = some none)
        (in40 : PySem.W.findIn K (.ref C40) "__init__" = some (some (.ref f40)))
        (ti40 : PySem.W.typeIn K (.ref f40) = some (.type "function"))
        (l40 : K.lookup f40 = some ⟨oc40, od40, .func (PySem.W.fnOf "__init__" "NotFitting.__init__" (defArgs s_c_NotFitting_init) (defBody s_c_NotFitting_init) (defScope s_c_NotFitting_init) .none kV40 dc40 pm40 an40 cd40 ct40), sl40⟩) (c40 : PySem.W.codeIn K cd40 "NotFitting.__init__" = true) (k40 : PySem.W.keepIn K (.ref f40) = true)
        (nf40_0 : PySem.W.findIn K (.ref C40) "code" = some none)
        (a41 : PySem.W.nsIn K mainGlobals "NotShown" = some (some (.ref C41)))
        (ei41 : PySem.W.excInitIn K C41 [.type "ValueError", .type "Exception", .type "BaseException", .type "object"] "ValueError.__new__" = true)
        (eo41 : PySem.W.excOver K C41 [.type "ValueError", .type "Exception", .type "BaseException", .type "object"] = true)
        (sa41 : PySem.W.findIn K (.ref C41) "__setattr__" = some (some (.builtin "object.__setattr__")))
        (ex41 : PySem.W.subIn K (.ref C41) (.type "BaseException") = some true)
        (ty41 : PySem.W.typeIn K (.ref C41) = some (.type "type"))
        (kC41 : PySem.W.keepIn K (.ref C41) = true)
        (hd41 : PySem.W.hasDictIn K C41 = true)
        (ga41 : PySem.W.findIn K (.ref C41) "__getattribute__" = some (some (.builtin "BaseException.__getattribute__")))
        (gg41 : PySem.W.findIn K (.ref C41) "__getattr__" = some none)
        (in41 : PySem.W.findIn K (.ref C41) "__init__" = some (some (.ref f41)))
        (ti41 : PySem.W.typeIn K (.ref f41) = some (.type "function"))
        (l41 : K.lookup f41 = some ⟨oc41, od41, .func (PySem.W.fnOf "__init__" "NotShown.__init__" (defArgs s_c_NotShown_init) (defBody s_c_NotShown_init) (defScope s_c_NotShown_init) .none kV41 dc41 pm41 an41 cd41 ct41), sl41⟩) (c41 : PySem.W.codeIn K cd41 "NotShown.__init__" = true) (k41 : PySem.W.keepIn K (.ref f41) = true)
        (nf41_0 : PySem.W.findIn K (.ref C41) "code" = some none)
        (a42 : PySem.W.nsIn K mainGlobals "NotABlock" = some (some (.ref C42)))
        (ei42 : PySem.W.excInitIn K C42 [.type "ValueError", .type "Exception", .type "BaseException", .type "object"] "ValueError.__new__" = true)
        (eo42 : PySem.W.excOver K C42 [.type "ValueError", .type "Exception", .type "BaseException", .type "object"] = true)
        (sa42 : PySem.W.findIn K (.ref C42) "__setattr__" = some (some (.builtin "object.__setattr__")))
        (ex42 : PySem.W.subIn K (.ref C42) (.type "BaseException") = some true)
        (ty42 : PySem.W.typeIn K (.ref C42) = some (.type "type"))
        (kC42 : PySem.W.keepIn K (.ref C42) = true)
        (hd42 : PySem.W.hasDictIn K C42 = true)
        (ga42 : PySem.W.findIn K (.ref C42) "__getattribute__" = some (some (.builtin "BaseException.__getattribute__")))
        (gg42 : PySem.W.findIn K (.ref C42) "__getattr__" = some none)
        (in42 : PySem.W.findIn K (.ref C42) "__init__" = some (some (.ref f42)))
        (ti42 : PySem.W.typeIn K (.ref f42) = some (.type "function"))
        (l42 : K.lookup f42 = some ⟨oc42, od42, .func (PySem.W.fnOf "__init__" "NotABlock.__init__" (defArgs s_c_NotABlock_init) (defBody s_c_NotABlock_init) (defScope s_c_NotABlock_init) .none kV42 dc42 pm42 an42 cd42 ct42), sl42⟩) (c42 : PySem.W.codeIn K cd42 "NotABlock.__init__" = true) (k42 : PySem.W.keepIn K (.ref f42) = true)
        (nf42_0 : PySem.W.findIn K (.ref C42) "lot" = some none)
        (nf42_1 : PySem.W.findIn K (.ref C42) "code" = some none)
        (a43 : PySem.W.nsIn K mainGlobals "OtherFinds" = some (some (.ref C43)))
        (ei43 : PySem.W.excInitIn K C43 [.type "ValueError", .type "Exception", .type "BaseException", .type "object"] "ValueError.__new__" = true)
        (eo43 : PySem.W.excOver K C43 [.type "ValueError", .type "Exception", .type "BaseException", .type "object"] = true)
        (sa43 : PySem.W.findIn K (.ref C43) "__setattr__" = some (some (.builtin "object.__setattr__")))
        (ex43 : PySem.W.subIn K (.ref C43) (.type "BaseException") = some true)
        (ty43 : PySem.W.typeIn K (.ref C43) = some (.type "type"))
        (kC43 : PySem.W.keepIn K (.ref C43) = true)
        (hd43 : PySem.W.hasDictIn K C43 = true)
        (ga43 : PySem.W.findIn K (.ref C43) "__getattribute__" = some (some (.builtin "BaseException.__getattribute__")))
        (gg43 : PySem.W.findIn K (.ref C43) "__getattr__" = some none)
        (in43 : PySem.W.findIn K (.ref C43) "__init__" = some (some (.ref f43)))
        (ti43 : PySem.W.typeIn K (.ref f43) = some (.type "function"))
        (l43 : K.lookup f43 = some ⟨oc43, od43, .func (PySem.W.fnOf "__init__" "OtherFinds.__init__" (defArgs s_c_OtherFinds_init) (defBody s_c_OtherFinds_init) (defScope s_c_OtherFinds_init) .none kV43 dc43 pm43 an43 cd43 ct43), sl43⟩) (c43 : PySem.W.codeIn K cd43 "OtherFinds.__init__" = true) (k43 : PySem.W.keepIn K (.ref f43) = true)
        (nf43_0 : PySem.W.findIn K (.ref C43) "code" = some none)
        (a44 : PySem.W.nsIn K mainGlobals "Same" = some (some (.ref C44)))
        (ei44 : PySem.W.excInitIn K C44 [.type "ValueError", .type "Exception", .type "BaseException", .type "object"] "ValueError.__new__" = true)
        (eo44 : PySem.W.excOver K C44 [.type "ValueError", .type "Exception", .type "BaseException", .type "object"] = true)
        (sa44 : PySem.W.findIn K (.ref C44) "__setattr__" = some (some (.builtin "object.__setattr__")))
        (ex44 : PySem.W.subIn K (.ref C44) (.type "BaseException") = some true)
        (ty44 : PySem.W.typeIn K (.ref C44) = some (.type "type"))
        (kC44 : PySem.W.keepIn K (.ref C44) = true)
        (hd44 : PySem.W.hasDictIn K C44 = true)
        (ga44 : PySem.W.findIn K (.ref C44) "__getattribute__" = some (some (.builtin "BaseException.__getattribute__")))
        (gg44 : PySem.W.findIn K (.ref C44) "__getattr__" = some none)
        (in44 : PySem.W.findIn K (.ref C44) "__init__" = some (some (.ref f44)))
        (ti44 : PySem.W.typeIn K (.ref f44) = some (.type "function"))
        (l44 : K.lookup f44 = some ⟨oc44, od44, .func (PySem.W.fnOf "__init__" "Same.__init__" (defArgs s_c_Same_init) (defBody s_c_Same_init) (defScope s_c_Same_init) .none kV44 dc44 pm44 an44 cd44 ct44), sl44⟩) (c44 : PySem.W.codeIn K cd44 "Same.__init__" = true) (k44 : PySem.W.keepIn K (.ref f44) = true)
        (nf44_0 : PySem.W.findIn K (.ref C44) "name" = some none)
        (nf44_1 : PySem.W.findIn K (.ref C44) "code" = some none)
        (a45 : PySem.W.nsIn K mainGlobals "NoTable" = some (some (.ref C45)))
        (ei45 : PySem.W.excInitIn K C45 [.type "ValueError", .type "Exception", .type "BaseException", .type "object"] "ValueError.__new__" = true)
        (eo45 : PySem.W.excOver K C45 [.type "ValueError", .type "Exception", .type "BaseException", .type "object"] = true)
        (sa45 : PySem.W.findIn K (.ref C45) "__setattr__" = some (some (.builtin "object.__setattr__")))
        (ex45 : PySem.W.subIn K (.ref C45) (.type "BaseException") = some true)
        (ty45 : PySem.W.typeIn K (.ref C45) = some (.type "type"))
        (kC45 : PySem.W.keepIn K (.ref C45) = true)
        (hd45 : PySem.W.hasDictIn K C45 = true)
        (ga45 : PySem.W.findIn K (.ref C45) "__getattribute__" = some (some (.builtin "BaseException.__getattribute__")))
        (gg45 : PySem.W.findIn K (.ref C45) "__getattr__" = some none)
        (in45 : PySem.W.findIn K (.ref C45) "__init__" = some (some (.ref f45)))
        (ti45 : PySem.W.typeIn K (.ref f45) = some (.type "function"))
        (l45 : K.lookup f45 = some ⟨oc45, od45, .func (PySem.W.fnOf "__init__" "NoTable.__init__" (defArgs s_c_NoTable_init) (defBody s_c_NoTable_init) (defScope s_c_NoTable_init) .none kV45 dc45 pm45 an45 cd45 ct45), sl45⟩) (c45 : PySem.W.codeIn K cd45 "NoTable.__init__" = true) (k45 : PySem.W.keepIn K (.ref f45) = true)
        (nf45_0 : PySem.W.findIn K (.ref C45) "why" = some none)
        (nf45_1 : PySem.W.findIn K (.ref C45) "found" = some none)
        (nf45_2 : PySem.W.findIn K (.ref C45) "code" = some none)
        (a46 : PySem.W.nsIn K mainGlobals "Taken" = some (some (.ref C46)))
        (ei46 : PySem.W.excInitIn K C46 [.type "ValueError", .type "Exception", .type "BaseException", .type "object"] "ValueError.__new__" = true)
        (eo46 : PySem.W.excOver K C46 [.type "ValueError", .type "Exception", .type "BaseException", .type "object"] = true)
        (sa46 : PySem.W.findIn K (.ref C46) "__setattr__" = some (some (.builtin "object.__setattr__")))
        (ex46 : PySem.W.subIn K (.ref C46) (.type "BaseException") = some true)
        (ty46 : PySem.W.typeIn K (.ref C46) = some (.type "type"))
        (kC46 : PySem.W.keepIn K (.ref C46) = true)
        (hd46 : PySem.W.hasDictIn K C46 = true)
        (ga46 : PySem.W.findIn K (.ref C46) "__getattribute__" = some (some (.builtin "BaseException.__getattribute__")))
        (gg46 : PySem.W.findIn K (.ref C46) "__getattr__" = some none)
        (in46 : PySem.W.findIn K (.ref C46) "__init__" = some (some (.ref f46)))
        (ti46 : PySem.W.typeIn K (.ref f46) = some (.type "function"))
        (l46 : K.lookup f46 = some ⟨oc46, od46, .func (PySem.W.fnOf "__init__" "Taken.__init__" (defArgs s_c_Taken_init) (defBody s_c_Taken_init) (defScope s_c_Taken_init) .none kV46 dc46 pm46 an46 cd46 ct46), sl46⟩) (c46 : PySem.W.codeIn K cd46 "Taken.__init__" = true) (k46 : PySem.W.keepIn K (.ref f46) = true)
        (nf46_0 : PySem.W.findIn K (.ref C46) "name" = some none)
        (nf46_1 : PySem.W.findIn K (.ref C46) "code" = some none)
        (a47 : PySem.W.nsIn K mainGlobals "InUse" = some (some (.ref C47)))
        (ei47 : PySem.W.excInitIn K C47 [.type "ValueError", .type "Exception", .type "BaseException", .type "object"] "ValueError.__new__" = true)
        (eo47 : PySem.W.excOver K C47 [.type "ValueError", .type "Exception", .type "BaseException", .type "object"] = true)
        (sa47 : PySem.W.findIn K (.ref C47) "__setattr__" = some (some (.builtin "object.__setattr__")))
        (ex47 : PySem.W.subIn K (.ref C47) (.type "BaseException") = some true)
        (ty47 : PySem.W.typeIn K (.ref C47) = some (.type "type"))
        (kC47 : PySem.W.keepIn K (.ref C47) = true)
        (hd47 : PySem.W.hasDictIn K C47 = true)
        (ga47 : PySem.W.findIn K (.ref C47) "__getattribute__" = some (some (.builtin "BaseException.__getattribute__")))
        (gg47 : PySem.W.findIn K (.ref C47) "__getattr__" = some none)
        (in47 : PySem.W.findIn K (.ref C47) "__init__" = some (some (.ref f47)))
        (ti47 : PySem.W.typeIn K (.ref f47) = some (.type "function"))
        (l47 : K.lookup f47 = some ⟨oc47, od47, .func (PySem.W.fnOf "__init__" "InUse.__init__" (defArgs s_c_InUse_init) (defBody s_c_InUse_init) (defScope s_c_InUse_init) .none kV47 dc47 pm47 an47 cd47 ct47), sl47⟩) (c47 : PySem.W.codeIn K cd47 "InUse.__init__" = true) (k47 : PySem.W.keepIn K (.ref f47) = true)
        (nf47_0 : PySem.W.findIn K (.ref C47) "mark" = some none)
        (nf47_1 : PySem.W.findIn K (.ref C47) "code" = some none)
        (a48 : PySem.W.nsIn K mainGlobals "NoFinds" = some (some (.ref C48)))
        (ei48 : PySem.W.excInitIn K C48 [.type "ValueError", .type "Exception", .type "BaseException", .type "object"] "ValueError.__new__" = true)
        (eo48 : PySem.W.excOver K C48 [.type "ValueError", .type "Exception", .type "BaseException", .type "object"] = true)
        (sa48 : PySem.W.findIn K (.ref C48) "__setattr__" = some (some (.builtin "object.__setattr__")))
        (ex48 : PySem.W.subIn K (.ref C48) (.type "BaseException") = some true)
        (ty48 : PySem.W.typeIn K (.ref C48) = some (.type "type"))
        (kC48 : PySem.W.keepIn K (.ref C48) = true)
        (hd48 : PySem.W.hasDictIn K C48 = true)
        (ga48 : PySem.W.findIn K (.ref C48) "__getattribute__" = some (some (.builtin "BaseException.__getattribute__")))
        (gg48 : PySem.W.findIn K (.ref C48) "__getattr__" = some none)
        (in48 : PySem.W.findIn K (.ref C48) "__init__" = some (some (.ref f48)))
        (ti48 : PySem.W.typeIn K (.ref f48) = some (.type "function"))
        (l48 : K.lookup f48 = some ⟨oc48, od48, .func (PySem.W.fnOf "__init__" "NoFinds.__init__" (defArgs s_c_NoFinds_init) (defBody s_c_NoFinds_init) (defScope s_c_NoFinds_init) .none kV48 dc48 pm48 an48 cd48 ct48), sl48⟩) (c48 : PySem.W.codeIn K cd48 "NoFinds.__init__" = true) (k48 : PySem.W.keepIn K (.ref f48) = true)
        (nf48_0 : PySem.W.findIn K (.ref C48) "code" = some none)
        (a49 : PySem.W.nsIn K mainGlobals "UnknownName" = some (some (.ref C49)))
        (ei49 : PySem.W.excInitIn K C49 [.type "LookupError", .type "Exception", .type "BaseException", .type "object"] "LookupError.__new__" = true)
        (eo49 : PySem.W.excOver K C49 [.type "LookupError", .type "Exception", .type "BaseException", .type "object"] = true)
        (sa49 : PySem.W.findIn K (.ref C49) "__setattr__" = some (some (.builtin "object.__setattr__")))
        (ex49 : PySem.W.subIn K (.ref C49) (.type "BaseException") = some true)
        (ty49 : PySem.W.typeIn K (.ref C49) = some (.type "type"))
        (kC49 : PySem.W.keepIn K (.ref C49) = true)
        (hd49 : PySem.W.hasDictIn K C49 = true)
        (ga49 : PySem.W.findIn K (.ref C49) "__getattribute__" = some (some (.builtin "BaseException.__getattribute__")))
        (gg49 : PySem.W.findIn K (.ref C49) "__getattr__" = some none)
        (in49 : PySem.W.findIn K (.ref C49) "__init__" = some (some (.ref f49)))
        (ti49 : PySem.W.typeIn K (.ref f49) = some (.type "function"))
        (l49 : K.lookup f49 = some ⟨oc49, od49, .func (PySem.W.fnOf "__init__" "UnknownName.__init__" (defArgs s_c_UnknownName_init) (defBody s_c_UnknownName_init) (defScope s_c_UnknownName_init) .none kV49 dc49 pm49 an49 cd49 ct49), sl49⟩) (c49 : PySem.W.codeIn K cd49 "UnknownName.__init__" = true) (k49 : PySem.W.keepIn K (.ref f49) = true)
        (nf49_0 : PySem.W.findIn K (.ref C49) "name" = some none)
        (nf49_1 : PySem.W.findIn K (.ref C49) "code" = some none)
        (a50 : PySem.W.nsIn K mainGlobals "UnknownFind" = some (some (.ref C50)))
        (ei50 : PySem.W.excInitIn K C50 [.type "LookupError", .type "Exception", .type "BaseException", .type "object"] "LookupError.__new__" = true)
        (eo50 : PySem.W.excOver K C50 [.type "LookupError", .type "Exception", .type "BaseException", .type "object"] = true)
        (sa50 : PySem.W.findIn K (.ref C50) "__setattr__" = some (some (.builtin "object.__setattr__")))
        (ex50 : PySem.W.subIn K (.ref C50) (.type "BaseException") = some true)
        (ty50 : PySem.W.typeIn K (.ref C50) = some (.type "type"))
        (kC50 : PySem.W.keepIn K (.ref C50) = true)
        (hd50 : PySem.W.hasDictIn K C50 = true)
        (ga50 : PySem.W.findIn K (.ref C50) "__getattribute__" = some (some (.builtin "BaseException.__getattribute__")))
        (gg50 : PySem.W.findIn K (.ref C50) "__getattr__" = some none)
        (in50 : PySem.W.findIn K (.ref C50) "__init__" = some (some (.ref f50)))
        (ti50 : PySem.W.typeIn K (.ref f50) = some (.type "function"))
        (l50 : K.lookup f50 = some ⟨oc50, od50, .func (PySem.W.fnOf "__init__" "UnknownFind.__init__" (defArgs s_c_UnknownFind_init) (defBody s_c_UnknownFind_init) (defScope s_c_UnknownFind_init) .none kV50 dc50 pm50 an50 cd50 ct50), sl50⟩) (c50 : PySem.W.codeIn K cd50 "UnknownFind.__init__" = true) (k50 : PySem.W.keepIn K (.ref f50) = true)
        (nf50_0 : PySem.W.findIn K (.ref C50) "name" = some none)
        (nf50_1 : PySem.W.findIn K (.ref C50) "code" = some none)
        (a51 : PySem.W.nsIn K mainGlobals "UnknownNode" = some (some (.ref C51)))
        (ei51 : PySem.W.excInitIn K C51 [.type "LookupError", .type "Exception", .type "BaseException", .type "object"] "LookupError.__new__" = true)
        (eo51 : PySem.W.excOver K C51 [.type "LookupError", .type "Exception", .type "BaseException", .type "object"] = true)
        (sa51 : PySem.W.findIn K (.ref C51) "__setattr__" = some (some (.builtin "object.__setattr__")))
        (ex51 : PySem.W.subIn K (.ref C51) (.type "BaseException") = some true)
        (ty51 : PySem.W.typeIn K (.ref C51) = some (.type "type"))
        (kC51 : PySem.W.keepIn K (.ref C51) = true)
        (hd51 : PySem.W.hasDictIn K C51 = true)
        (ga51 : PySem.W.findIn K (.ref C51) "__getattribute__" = some (some (.builtin "BaseException.__getattribute__")))
        (gg51 : PySem.W.findIn K (.ref C51) "__getattr__" = some none)
        (in51 : PySem.W.findIn K (.ref C51) "__init__" = some (some (.ref f51)))
        (ti51 : PySem.W.typeIn K (.ref f51) = some (.type "function"))
        (l51 : K.lookup f51 = some ⟨oc51, od51, .func (PySem.W.fnOf "__init__" "UnknownNode.__init__" (defArgs s_c_UnknownNode_init) (defBody s_c_UnknownNode_init) (defScope s_c_UnknownNode_init) .none kV51 dc51 pm51 an51 cd51 ct51), sl51⟩) (c51 : PySem.W.codeIn K cd51 "UnknownNode.__init__" = true) (k51 : PySem.W.keepIn K (.ref f51) = true)
        (nf51_0 : PySem.W.findIn K (.ref C51) "lot" = some none)
        (nf51_1 : PySem.W.findIn K (.ref C51) "code" = some none)
        (a52 : PySem.W.nsIn K mainGlobals "UnknownKept" = some (some (.ref C52)))
        (ei52 : PySem.W.excInitIn K C52 [.type "LookupError", .type "Exception", .type "BaseException", .type "object"] "LookupError.__new__" = true)
        (eo52 : PySem.W.excOver K C52 [.type "LookupError", .type "Exception", .type "BaseException", .type "object"] = true)
        (sa52 : PySem.W.findIn K (.ref C52) "__setattr__" = some (some (.builtin "object.__setattr__")))
        (ex52 : PySem.W.subIn K (.ref C52) (.type "BaseException") = some true)
        (ty52 : PySem.W.typeIn K (.ref C52) = some (.type "type"))
        (kC52 : PySem.W.keepIn K (.ref C52) = true)
        (hd52 : PySem.W.hasDictIn K C52 = true)
        (ga52 : PySem.W.findIn K (.ref C52) "__getattribute__" = some (some (.builtin "BaseException.__getattribute__")))
        (gg52 : PySem.W.findIn K (.ref C52) "__getattr__" = some none)
        (in52 : PySem.W.findIn K (.ref C52) "__init__" = some (some (.ref f52)))
        (ti52 : PySem.W.typeIn K (.ref f52) = some (.type "function"))
        (l52 : K.lookup f52 = some ⟨oc52, od52, .func (PySem.W.fnOf "__init__" "UnknownKept.__init__" (defArgs s_c_UnknownKept_init) (defBody s_c_UnknownKept_init) (defScope s_c_UnknownKept_init) .none kV52 dc52 pm52 an52 cd52 ct52), sl52⟩) (c52 : PySem.W.codeIn K cd52 "UnknownKept.__init__" = true) (k52 : PySem.W.keepIn K (.ref f52) = true)
        (nf52_0 : PySem.W.findIn K (.ref C52) "at" = some none)
        (nf52_1 : PySem.W.findIn K (.ref C52) "code" = some none)
        (a53 : PySem.W.nsIn K mainGlobals "NothingLeft" = some (some (.ref C53)))
        (ei53 : PySem.W.excInitIn K C53 [.type "IndexError", .type "LookupError", .type "Exception", .type "BaseException", .type "object"] "IndexError.__new__" = true)
        (eo53 : PySem.W.excOver K C53 [.type "IndexError", .type "LookupError", .type "Exception", .type "BaseException", .type "object"] = true)
        (sa53 : PySem.W.findIn K (.ref C53) "__setattr__" = some (some (.builtin "object.__setattr__")))
        (ex53 : PySem.W.subIn K (.ref C53) (.type "BaseException") = some true)
        (ty53 : PySem.W.typeIn K (.ref C53) = some (.type "type"))
        (kC53 : PySem.W.keepIn K (.ref C53) = true)
        (hd53 : PySem.W.hasDictIn K C53 = true)
        (ga53 : PySem.W.findIn K (.ref C53) "__getattribute__" = some (some (.builtin "BaseException.__getattribute__")))
        (gg53 : PySem.W.findIn K (.ref C53) "__getattr__" = some none)
        (in53 : PySem.W.findIn K (.ref C53) "__init__" = some (some (.ref f53)))
        (ti53 : PySem.W.typeIn K (.ref f53) = some (.type "function"))
        (l53 : K.lookup f53 = some ⟨oc53, od53, .func (PySem.W.fnOf "__init__" "NothingLeft.__init__" (defArgs s_c_NothingLeft_init) (defBody s_c_NothingLeft_init) (defScope s_c_NothingLeft_init) .none kV53 dc53 pm53 an53 cd53 ct53), sl53⟩) (c53 : PySem.W.codeIn K cd53 "NothingLeft.__init__" = true) (k53 : PySem.W.keepIn K (.ref f53) = true)
        (nf53_0 : PySem.W.findIn K (.ref C53) "code" = some none)
        (xKit : (([(Str.ofString "InvalidName", C18), (Str.ofString "InvalidLot", C19), (Str.ofString "InvalidFind", C20), (Str.ofString "InvalidWord", C21), (Str.ofString "InvalidFact", C22), (Str.ofString "InvalidOrder", C23), (Str.ofString "InvalidKind", C24), (Str.ofString "InvalidPair", C25), (Str.ofString "InvalidDeed", C26), (Str.ofString "InvalidText", C27), (Str.ofString "InvalidNumber", C28), (Str.ofString "InvalidStatement", C29), (Str.ofString "InvalidQuestion", C30), (Str.ofString "InvalidClaim", C31), (Str.ofString "InvalidTimes", C32), (Str.ofString "InvalidWeights", C33), (Str.ofString "DuplicateName", C34), (Str.ofString "TooMany", C35), (Str.ofString "TooFew", C36), (Str.ofString "CannotStand", C37), (Str.ofString "Standing", C38), (Str.ofString "Clash", C39), (Str.ofString "NotFitting", C40), (Str.ofString "NotShown", C41), (Str.ofString "NotABlock", C42), (Str.ofString "OtherFinds", C43), (Str.ofString "Same", C44), (Str.ofString "NoTable", C45), (Str.ofString "Taken", C46), (Str.ofString "InUse", C47), (Str.ofString "NoFinds", C48), (Str.ofString "UnknownName", C49), (Str.ofString "UnknownFind", C50), (Str.ofString "UnknownNode", C51), (Str.ofString "UnknownKept", C52), (Str.ofString "NothingLeft", C53)] : List (Str × Addr)).all fun p => ([(Str.ofString "InvalidName", C18), (Str.ofString "InvalidLot", C19), (Str.ofString "InvalidFind", C20), (Str.ofString "InvalidWord", C21), (Str.ofString "InvalidFact", C22), (Str.ofString "InvalidOrder", C23), (Str.ofString "InvalidKind", C24), (Str.ofString "InvalidPair", C25), (Str.ofString "InvalidDeed", C26), (Str.ofString "InvalidText", C27), (Str.ofString "InvalidNumber", C28), (Str.ofString "InvalidStatement", C29), (Str.ofString "InvalidQuestion", C30), (Str.ofString "InvalidClaim", C31), (Str.ofString "InvalidTimes", C32), (Str.ofString "InvalidWeights", C33), (Str.ofString "DuplicateName", C34), (Str.ofString "TooMany", C35), (Str.ofString "TooFew", C36), (Str.ofString "CannotStand", C37), (Str.ofString "Standing", C38), (Str.ofString "Clash", C39), (Str.ofString "NotFitting", C40), (Str.ofString "NotShown", C41), (Str.ofString "NotABlock", C42), (Str.ofString "OtherFinds", C43), (Str.ofString "Same", C44), (Str.ofString "NoTable", C45), (Str.ofString "Taken", C46), (Str.ofString "InUse", C47), (Str.ofString "NoFinds", C48), (Str.ofString "UnknownName", C49), (Str.ofString "UnknownFind", C50), (Str.ofString "UnknownNode", C51), (Str.ofString "UnknownKept", C52), (Str.ofString "NothingLeft", C53)] : List (Str × Addr)).all fun q => PySem.W.kitOne K (.ref p.2) (.ref q.2) == some (decide (p.1 = q.1))) = true) (xExc : ([(Str.ofString "InvalidName", C18), (Str.ofString "InvalidLot", C19), (Str.ofString "InvalidFind", C20), (Str.ofString "InvalidWord", C21), (Str.ofString "InvalidFact", C22), (Str.ofString "InvalidOrder", C23), (Str.ofString "InvalidKind", C24), (Str.ofString "InvalidPair", C25), (Str.ofString "InvalidDeed", C26), (Str.ofString "InvalidText", C27), (Str.ofString "InvalidNumber", C28), (Str.ofString "InvalidStatement", C29), (Str.ofString "InvalidQuestion", C30), (Str.ofString "InvalidClaim", C31), (Str.ofString "InvalidTimes", C32), (Str.ofString "InvalidWeights", C33), (Str.ofString "DuplicateName", C34), (Str.ofString "TooMany", C35), (Str.ofString "TooFew", C36), (Str.ofString "CannotStand", C37), (Str.ofString "Standing", C38), (Str.ofString "Clash", C39), (Str.ofString "NotFitting", C40), (Str.ofString "NotShown", C41), (Str.ofString "NotABlock", C42), (Str.ofString "OtherFinds", C43), (Str.ofString "Same", C44), (Str.ofString "NoTable", C45), (Str.ofString "Taken", C46), (Str.ofString "InUse", C47), (Str.ofString "NoFinds", C48), (Str.ofString "UnknownName", C49), (Str.ofString "UnknownFind", C50), (Str.ofString "UnknownNode", C51), (Str.ofString "UnknownKept", C52), (Str.ofString "NothingLeft", C53)] : List (Str × Addr)).all (fun p => excB K p.2) = true)
        (xgFE : (([(Str.ofString "InvalidName", C18), (Str.ofString "InvalidLot", C19), (Str.ofString "InvalidFind", C20), (Str.ofString "InvalidWord", C21), (Str.ofString "InvalidFact", C22), (Str.ofString "InvalidOrder", C23), (Str.ofString "InvalidKind", C24), (Str.ofString "InvalidPair", C25), (Str.ofString "InvalidDeed", C26), (Str.ofString "InvalidText", C27), (Str.ofString "InvalidNumber", C28), (Str.ofString "InvalidStatement", C29), (Str.ofString "InvalidQuestion", C30), (Str.ofString "InvalidClaim", C31), (Str.ofString "InvalidTimes", C32), (Str.ofString "InvalidWeights", C33), (Str.ofString "DuplicateName", C34), (Str.ofString "TooMany", C35), (Str.ofString "TooFew", C36), (Str.ofString "CannotStand", C37), (Str.ofString "Standing", C38), (Str.ofString "Clash", C39), (Str.ofString "NotFitting", C40), (Str.ofString "NotShown", C41), (Str.ofString "NotABlock", C42), (Str.ofString "OtherFinds", C43), (Str.ofString "Same", C44), (Str.ofString "NoTable", C45), (Str.ofString "Taken", C46), (Str.ofString "InUse", C47), (Str.ofString "NoFinds", C48), (Str.ofString "UnknownName", C49), (Str.ofString "UnknownFind", C50), (Str.ofString "UnknownNode", C51), (Str.ofString "UnknownKept", C52), (Str.ofString "NothingLeft", C53)] : List (Str × Addr)).all fun p => PySem.W.kitOne K (.ref p.2) (.ref b1) == some (findB p.1)) = true)
        (xgMI : (([(Str.ofString "InvalidName", C18), (Str.ofString "InvalidLot", C19), (Str.ofString "InvalidFind", C20), (Str.ofString "InvalidWord", C21), (Str.ofString "InvalidFact", C22), (Str.ofString "InvalidOrder", C23), (Str.ofString "InvalidKind", C24), (Str.ofString "InvalidPair", C25), (Str.ofString "InvalidDeed", C26), (Str.ofString "InvalidText", C27), (Str.ofString "InvalidNumber", C28), (Str.ofString "InvalidStatement", C29), (Str.ofString "InvalidQuestion", C30), (Str.ofString "InvalidClaim", C31), (Str.ofString "InvalidTimes", C32), (Str.ofString "InvalidWeights", C33), (Str.ofString "DuplicateName", C34), (Str.ofString "TooMany", C35), (Str.ofString "TooFew", C36), (Str.ofString "CannotStand", C37), (Str.ofString "Standing", C38), (Str.ofString "Clash", C39), (Str.ofString "NotFitting", C40), (Str.ofString "NotShown", C41), (Str.ofString "NotABlock", C42), (Str.ofString "OtherFinds", C43), (Str.ofString "Same", C44), (Str.ofString "NoTable", C45), (Str.ofString "Taken", C46), (Str.ofString "InUse", C47), (Str.ofString "NoFinds", C48), (Str.ofString "UnknownName", C49), (Str.ofString "UnknownFind", C50), (Str.ofString "UnknownNode", C51), (Str.ofString "UnknownKept", C52), (Str.ofString "NothingLeft", C53)] : List (Str × Addr)).all fun p => PySem.W.kitOne K (.ref p.2) (.ref b2) == some (missB p.1)) = true)
        (ygVE : PySem.W.nsIn K mainGlobals "ValueError" = some none) (xgVE : (([(Str.ofString "InvalidName", C18), (Str.ofString "InvalidLot", C19), (Str.ofString "InvalidFind", C20), (Str.ofString "InvalidWord", C21), (Str.ofString "InvalidFact", C22), (Str.ofString "InvalidOrder", C23), (Str.ofString "InvalidKind", C24), (Str.ofString "InvalidPair", C25), (Str.ofString "InvalidDeed", C26), (Str.ofString "InvalidText", C27), (Str.ofString "InvalidNumber", C28), (Str.ofString "InvalidStatement", C29), (Str.ofString "InvalidQuestion", C30), (Str.ofString "InvalidClaim", C31), (Str.ofString "InvalidTimes", C32), (Str.ofString "InvalidWeights", C33), (Str.ofString "DuplicateName", C34), (Str.ofString "TooMany", C35), (Str.ofString "TooFew", C36), (Str.ofString "CannotStand", C37), (Str.ofString "Standing", C38), (Str.ofString "Clash", C39), (Str.ofString "NotFitting", C40), (Str.ofString "NotShown", C41), (Str.ofString "NotABlock", C42), (Str.ofString "OtherFinds", C43), (Str.ofString "Same", C44), (Str.ofString "NoTable", C45), (Str.ofString "Taken", C46), (Str.ofString "InUse", C47), (Str.ofString "NoFinds", C48), (Str.ofString "UnknownName", C49), (Str.ofString "UnknownFind", C50), (Str.ofString "UnknownNode", C51), (Str.ofString "UnknownKept", C52), (Str.ofString "NothingLeft", C53)] : List (Str × Addr)).all fun p => PySem.W.kitOne K (.ref p.2) (.type "ValueError") == some (findB p.1)) = true)
        (ygLE : PySem.W.nsIn K mainGlobals "LookupError" = some none) (xgLE : (([(Str.ofString "InvalidName", C18), (Str.ofString "InvalidLot", C19), (Str.ofString "InvalidFind", C20), (Str.ofString "InvalidWord", C21), (Str.ofString "InvalidFact", C22), (Str.ofString "InvalidOrder", C23), (Str.ofString "InvalidKind", C24), (Str.ofString "InvalidPair", C25), (Str.ofString "InvalidDeed", C26), (Str.ofString "InvalidText", C27), (Str.ofString "InvalidNumber", C28), (Str.ofString "InvalidStatement", C29), (Str.ofString "InvalidQuestion", C30), (Str.ofString "InvalidClaim", C31), (Str.ofString "InvalidTimes", C32), (Str.ofString "InvalidWeights", C33), (Str.ofString "DuplicateName", C34), (Str.ofString "TooMany", C35), (Str.ofString "TooFew", C36), (Str.ofString "CannotStand", C37), (Str.ofString "Standing", C38), (Str.ofString "Clash", C39), (Str.ofString "NotFitting", C40), (Str.ofString "NotShown", C41), (Str.ofString "NotABlock", C42), (Str.ofString "OtherFinds", C43), (Str.ofString "Same", C44), (Str.ofString "NoTable", C45), (Str.ofString "Taken", C46), (Str.ofString "InUse", C47), (Str.ofString "NoFinds", C48), (Str.ofString "UnknownName", C49), (Str.ofString "UnknownFind", C50), (Str.ofString "UnknownNode", C51), (Str.ofString "UnknownKept", C52), (Str.ofString "NothingLeft", C53)] : List (Str × Addr)).all fun p => PySem.W.kitOne K (.ref p.2) (.type "LookupError") == some ((fun n => missB n || lastB n) p.1)) = true)
        (ygIE : PySem.W.nsIn K mainGlobals "IndexError" = some none) (xgIE : (([(Str.ofString "InvalidName", C18), (Str.ofString "InvalidLot", C19), (Str.ofString "InvalidFind", C20), (Str.ofString "InvalidWord", C21), (Str.ofString "InvalidFact", C22), (Str.ofString "InvalidOrder", C23), (Str.ofString "InvalidKind", C24), (Str.ofString "InvalidPair", C25), (Str.ofString "InvalidDeed", C26), (Str.ofString "InvalidText", C27), (Str.ofString "InvalidNumber", C28), (Str.ofString "InvalidStatement", C29), (Str.ofString "InvalidQuestion", C30), (Str.ofString "InvalidClaim", C31), (Str.ofString "InvalidTimes", C32), (Str.ofString "InvalidWeights", C33), (Str.ofString "DuplicateName", C34), (Str.ofString "TooMany", C35), (Str.ofString "TooFew", C36), (Str.ofString "CannotStand", C37), (Str.ofString "Standing", C38), (Str.ofString "Clash", C39), (Str.ofString "NotFitting", C40), (Str.ofString "NotShown", C41), (Str.ofString "NotABlock", C42), (Str.ofString "OtherFinds", C43), (Str.ofString "Same", C44), (Str.ofString "NoTable", C45), (Str.ofString "Taken", C46), (Str.ofString "InUse", C47), (Str.ofString "NoFinds", C48), (Str.ofString "UnknownName", C49), (Str.ofString "UnknownFind", C50), (Str.ofString "UnknownNode", C51), (Str.ofString "UnknownKept", C52), (Str.ofString "NothingLeft", C53)] : List (Str × Addr)).all fun p => PySem.W.kitOne K (.ref p.2) (.type "IndexError") == some (lastB p.1)) = true)
        (ygKE : PySem.W.nsIn K mainGlobals "KeyError" = some none) (xgKE : (([(Str.ofString "InvalidName", C18), (Str.ofString "InvalidLot", C19), (Str.ofString "InvalidFind", C20), (Str.ofString "InvalidWord", C21), (Str.ofString "InvalidFact", C22), (Str.ofString "InvalidOrder", C23), (Str.ofString "InvalidKind", C24), (Str.ofString "InvalidPair", C25), (Str.ofString "InvalidDeed", C26), (Str.ofString "InvalidText", C27), (Str.ofString "InvalidNumber", C28), (Str.ofString "InvalidStatement", C29), (Str.ofString "InvalidQuestion", C30), (Str.ofString "InvalidClaim", C31), (Str.ofString "InvalidTimes", C32), (Str.ofString "InvalidWeights", C33), (Str.ofString "DuplicateName", C34), (Str.ofString "TooMany", C35), (Str.ofString "TooFew", C36), (Str.ofString "CannotStand", C37), (Str.ofString "Standing", C38), (Str.ofString "Clash", C39), (Str.ofString "NotFitting", C40), (Str.ofString "NotShown", C41), (Str.ofString "NotABlock", C42), (Str.ofString "OtherFinds", C43), (Str.ofString "Same", C44), (Str.ofString "NoTable", C45), (Str.ofString "Taken", C46), (Str.ofString "InUse", C47), (Str.ofString "NoFinds", C48), (Str.ofString "UnknownName", C49), (Str.ofString "UnknownFind", C50), (Str.ofString "UnknownNode", C51), (Str.ofString "UnknownKept", C52), (Str.ofString "NothingLeft", C53)] : List (Str × Addr)).all fun p => PySem.W.kitOne K (.ref p.2) (.type "KeyError") == some ((fun _ => false) p.1)) = true)
        (xgRF : PySem.W.exmOne K (.ref C46) (.ref b1) = some true)
        (xgRM2 : PySem.W.exmOne K (.ref C50) (.ref b2) = some true), ∃ fd : FuncData, (∀ (s : Shared) (v : Value), BindsTo s fd ⟨[v], []⟩ [("_law_script", v)]) ∧ ∀ base : Heap, K.In base → base.Ns mainGlobals mg → FnOk l.prog w K mg base CX0 15 fa fd ["_law_script"] (spLawK K)
theorem AllMk.use (HM : AllMk) : ∀ {l : PySem.W.OpenLaw} {w : World} {K : PySem.W.Frag} {h : Heap} {mg : Str → Option Value} {fa : Addr} (X : K.In h) (G : h.Ns mainGlobals mg) 
        {f0 : Addr} {od0 an0 : Option Addr} {sl0 : Array (Option Value)} {oc0 kV0 dc0 pm0 ct0 : Value} {cd0 : Value}
        {f1 : Addr} {od1 an1 : Option Addr} {sl1 : Array (Option Value)} {oc1 kV1 dc1 pm1 ct1 : Value} {cd1 : Value}
        {f2 : Addr} {od2 an2 : Option Addr} {sl2 : Array (Option Value)} {oc2 kV2 dc2 pm2 ct2 : Value} {cd2 : Value}
        {f3 : Addr} {od3 an3 : Option Addr} {sl3 : Array (Option Value)} {oc3 kV3 dc3 pm3 ct3 : Value} {cd3 : Value}
        {f4 : Addr} {od4 an4 : Option Addr} {sl4 : Array (Option Value)} {oc4 kV4 dc4 pm4 ct4 : Value} {cd4 : Value}
        {f5 : Addr} {od5 an5 : Option Addr} {sl5 : Array (Option Value)} {oc5 kV5 dc5 pm5 ct5 : Value} {cd5 : Value}
        {f6 : Addr} {od6 an6 : Option Addr} {sl6 : Array (Option Value)} {oc6 kV6 dc6 pm6 ct6 : Value} {cd6 : Value}
        {f7 : Addr} {od7 an7 : Option Addr} {sl7 : Array (Option Value)} {oc7 kV7 dc7 pm7 ct7 : Value} {cd7 : Value}
        {f8 : Addr} {od8 an8 : Option Addr} {sl8 : Array (Option Value)} {oc8 kV8 dc8 pm8 ct8 : Value} {cd8 : Value}
        {f9 : Addr} {od9 an9 : Option Addr} {sl9 : Array (Option Value)} {oc9 kV9 dc9 pm9 ct9 : Value} {cd9 : Value}
        {f10 : Addr} {od10 an10 : Option Addr} {sl10 : Array (Option Value)} {oc10 kV10 dc10 pm10 ct10 : Value} {cd10 : Value}
        {f11 : Addr} {od11 an11 : Option Addr} {sl11 : Array (Option Value)} {oc11 kV11 dc11 pm11 ct11 : Value} {cd11 : Value}
        {f12 : Addr} {od12 an12 : Option Addr} {sl12 : Array (Option Value)} {oc12 kV12 dc12 pm12 ct12 : Value} {cd12 : Value}
        {f13 : Addr} {od13 an13 : Option Addr} {sl13 : Array (Option Value)} {oc13 kV13 dc13 pm13 ct13 : Value} {cd13 : Value}
        {f14 : Addr} {od14 an14 : Option Addr} {sl14 : Array (Option Value)} {oc14 kV14 dc14 pm14 ct14 : Value} {cd14 : Value}
        {f15 : Addr} {od15 an15 : Option Addr} {sl15 : Array (Option Value)} {oc15 kV15 dc15 pm15 ct15 : Value} {cd15 : Value}
        {f16 : Addr} {od16 an16 : Option Addr} {sl16 : Array (Option Value)} {oc16 kV16 dc16 pm16 ct16 : Value} {cd16 : Value}
        {f17 : Addr} {od17 an17 : Option Addr} {sl17 : Array (Option Value)} {oc17 kV17 dc17 pm17 ct17 : Value} {cd17 : Value}
        {b1 : Addr}
        {b2 : Addr}
        {C18 f18 : Addr} {od18 an18 : Option Addr} {sl18 : Array (Option Value)} {oc18 kV18 dc18 pm18 cd18 ct18 : Value}
        {C19 f19 : Addr} {od19 an19 : Option Addr} {sl19 : Array (Option Value)} {oc19 kV19 dc19 pm19 cd19 ct19 : Value}
        {C20 f20 : Addr} {od20 an20 : Option Addr} {sl20 : Array (Option Value)} {oc20 kV20 dc20 pm20 cd20 ct20 : Value}
        {C21 f21 : Addr} {od21 an21 : Option Addr} {sl21 : Array (Option Value)} {oc21 kV21 dc21 pm21 cd21 ct21 : Value}
        {C22 f22 : Addr} {od22 an22 : Option Addr} {sl22 : Array (Option Value)} {oc22 kV22 dc22 pm22 cd22 ct22 : Value}
        {C23 f23 : Addr} {od23 an23 : Option Addr} {sl23 : Array (Option Value)} {oc23 kV23 dc23 pm23 cd23 ct23 : Value}
        {C24 f24 : Addr} {od24 an24 : Option Addr} {sl24 : Array (Option Value)} {oc24 kV24 dc24 pm24 cd24 ct24 : Value}
        {C25 f25 : Addr} {od25 an25 : Option Addr} {sl25 : Array (Option Value)} {oc25 kV25 dc25 pm25 cd25 ct25 : Value}
        {C26 f26 : Addr} {od26 an26 : Option Addr} {sl26 : Array (Option Value)} {oc26 kV26 dc26 pm26 cd26 ct26 : Value}
        {C27 f27 : Addr} {od27 an27 : Option Addr} {sl27 : Array (Option Value)} {oc27 kV27 dc27 pm27 cd27 ct27 : Value}
        {C28 f28 : Addr} {od28 an28 : Option Addr} {sl28 : Array (Option Value)} {oc28 kV28 dc28 pm28 cd28 ct28 : Value}
        {C29 f29 : Addr} {od29 an29 : Option Addr} {sl29 : Array (Option Value)} {oc29 kV29 dc29 pm29 cd29 ct29 : Value}
        {C30 f30 : Addr} {od30 an30 : Option Addr} {sl30 : Array (Option Value)} {oc30 kV30 dc30 pm30 cd30 ct30 : Value}
        {C31 f31 : Addr} {od31 an31 : Option Addr} {sl31 : Array (Option Value)} {oc31 kV31 dc31 pm31 cd31 ct31 : Value}
        {C32 f32 : Addr} {od32 an32 : Option Addr} {sl32 : Array (Option Value)} {oc32 kV32 dc32 pm32 cd32 ct32 : Value}
        {C33 f33 : Addr} {od33 an33 : Option Addr} {sl33 : Array (Option Value)} {oc33 kV33 dc33 pm33 cd33 ct33 : Value}
        {C34 f34 : Addr} {od34 an34 : Option Addr} {sl34 : Array (Option Value)} {oc34 kV34 dc34 pm34 cd34 ct34 : Value}
        {C35 f35 : Addr} {od35 an35 : Option Addr} {sl35 : Array (Option Value)} {oc35 kV35 dc35 pm35 cd35 ct35 : Value}
        {C36 f36 : Addr} {od36 an36 : Option Addr} {sl36 : Array (Option Value)} {oc36 kV36 dc36 pm36 cd36 ct36 : Value}
        {C37 f37 : Addr} {od37 an37 : Option Addr} {sl37 : Array (Option Value)} {oc37 kV37 dc37 pm37 cd37 ct37 : Value}
        {C38 f38 : Addr} {od38 an38 : Option Addr} {sl38 : Array (Option Value)} {oc38 kV38 dc38 pm38 cd38 ct38 : Value}
        {C39 f39 : Addr} {od39 an39 : Option Addr} {sl39 : Array (Option Value)} {oc39 kV39 dc39 pm39 cd39 ct39 : Value}
        {C40 f40 : Addr} {od40 an40 : Option Addr} {sl40 : Array (Option Value)} {oc40 kV40 dc40 pm40 cd40 ct40 : Value}
        {C41 f41 : Addr} {od41 an41 : Option Addr} {sl41 : Array (Option Value)} {oc41 kV41 dc41 pm41 cd41 ct41 : Value}
        {C42 f42 : Addr} {od42 an42 : Option Addr} {sl42 : Array (Option Value)} {oc42 kV42 dc42 pm42 cd42 ct42 : Value}
        {C43 f43 : Addr} {od43 an43 : Option Addr} {sl43 : Array (Option Value)} {oc43 kV43 dc43 pm43 cd43 ct43 : Value}
        {C44 f44 : Addr} {od44 an44 : Option Addr} {sl44 : Array (Option Value)} {oc44 kV44 dc44 pm44 cd44 ct44 : Value}
        {C45 f45 : Addr} {od45 an45 : Option Addr} {sl45 : Array (Option Value)} {oc45 kV45 dc45 pm45 cd45 ct45 : Value}
        {C46 f46 : Addr} {od46 an46 : Option Addr} {sl46 : Array (Option Value)} {oc46 kV46 dc46 pm46 cd46 ct46 : Value}
        {C47 f47 : Addr} {od47 an47 : Option Addr} {sl47 : Array (Option Value)} {oc47 kV47 dc47 pm47 cd47 ct47 : Value}
        {C48 f48 : Addr} {od48 an48 : Option Addr} {sl48 : Array (Option Value)} {oc48 kV48 dc48 pm48 cd48 ct48 : Value}
        {C49 f49 : Addr} {od49 an49 : Option Addr} {sl49 : Array (Option Value)} {oc49 kV49 dc49 pm49 cd49 ct49 : Value}
        {C50 f50 : Addr} {od50 an50 : Option Addr} {sl50 : Array (Option Value)} {oc50 kV50 dc50 pm50 cd50 ct50 : Value}
        {C51 f51 : Addr} {od51 an51 : Option Addr} {sl51 : Array (Option Value)} {oc51 kV51 dc51 pm51 cd51 ct51 : Value}
        {C52 f52 : Addr} {od52 an52 : Option Addr} {sl52 : Array (Option Value)} {oc52 kV52 dc52 pm52 cd52 ct52 : Value}
        {C53 f53 : Addr} {od53 an53 : Option Addr} {sl53 : Array (Option Value)} {oc53 kV53 dc53 pm53 cd53 ct53 : Value}
        
        
        
        
        
        
        
        
        
        (hfa : mg "law" = some (.ref fa))
        (a0 : PySem.W.nsIn K mainGlobals "copied" = some (some (.ref f0))) (l0 : K.lookup f0 = some ⟨oc0, od0, .func (PySem.W.fnOf "copied" "copied" (defArgs s_p_copied) (defBody s_p_copied) (defScope s_p_copied) .none kV0 dc0 pm0 an0 cd0 ct0), sl0⟩) (c0 : PySem.W.codeIn K cd0 "copied" = true) (k0 : PySem.W.keepIn K (.ref f0) = true)
        (a1 : PySem.W.nsIn K mainGlobals "_law_start" = some (some (.ref f1))) (l1 : K.lookup f1 = some ⟨oc1, od1, .func (PySem.W.fnOf "_law_start" "_law_start" (defArgs s_l_start) (defBody s_l_start) (defScope s_l_start) .none kV1 dc1 pm1 an1 cd1 ct1), sl1⟩) (c1 : PySem.W.codeIn K cd1 "_law_start" = true) (k1 : PySem.W.keepIn K (.ref f1) = true)
        (a2 : PySem.W.nsIn K mainGlobals "_law_draw" = some (some (.ref f2))) (l2 : K.lookup f2 = some ⟨oc2, od2, .func (PySem.W.fnOf "_law_draw" "_law_draw" (defArgs s_l_draw) (defBody s_l_draw) (defScope s_l_draw) .none kV2 dc2 pm2 an2 cd2 ct2), sl2⟩) (c2 : PySem.W.codeIn K cd2 "_law_draw" = true) (k2 : PySem.W.keepIn K (.ref f2) = true)
        (a3 : PySem.W.nsIn K mainGlobals "_law_pick" = some (some (.ref f3))) (l3 : K.lookup f3 = some ⟨oc3, od3, .func (PySem.W.fnOf "_law_pick" "_law_pick" (defArgs s_l_pick) (defBody s_l_pick) (defScope s_l_pick) .none kV3 dc3 pm3 an3 cd3 ct3), sl3⟩) (c3 : PySem.W.codeIn K cd3 "_law_pick" = true) (k3 : PySem.W.keepIn K (.ref f3) = true)
        (a4 : PySem.W.nsIn K mainGlobals "_law_letters" = some (some (.ref f4))) (l4 : K.lookup f4 = some ⟨oc4, od4, .func (PySem.W.fnOf "_law_letters" "_law_letters" (defArgs s_l_letters) (defBody s_l_letters) (defScope s_l_letters) .none kV4 dc4 pm4 an4 cd4 ct4), sl4⟩) (c4 : PySem.W.codeIn K cd4 "_law_letters" = true) (k4 : PySem.W.keepIn K (.ref f4) = true)
        (a5 : PySem.W.nsIn K mainGlobals "_law_word" = some (some (.ref f5))) (l5 : K.lookup f5 = some ⟨oc5, od5, .func (PySem.W.fnOf "_law_word" "_law_word" (defArgs s_l_word) (defBody s_l_word) (defScope s_l_word) .none kV5 dc5 pm5 an5 cd5 ct5), sl5⟩) (c5 : PySem.W.codeIn K cd5 "_law_word" = true) (k5 : PySem.W.keepIn K (.ref f5) = true)
        (a6 : PySem.W.nsIn K mainGlobals "_law_odd" = some (some (.ref f6))) (l6 : K.lookup f6 = some ⟨oc6, od6, .func (PySem.W.fnOf "_law_odd" "_law_odd" (defArgs s_l_odd) (defBody s_l_odd) (defScope s_l_odd) .none kV6 dc6 pm6 an6 cd6 ct6), sl6⟩) (c6 : PySem.W.codeIn K cd6 "_law_odd" = true) (k6 : PySem.W.keepIn K (.ref f6) = true)
        (a7 : PySem.W.nsIn K mainGlobals "_law_same" = some (some (.ref f7))) (l7 : K.lookup f7 = some ⟨oc7, od7, .func (PySem.W.fnOf "_law_same" "_law_same" (defArgs s_l_same) (defBody s_l_same) (defScope s_l_same) .none kV7 dc7 pm7 an7 cd7 ct7), sl7⟩) (c7 : PySem.W.codeIn K cd7 "_law_same" = true) (k7 : PySem.W.keepIn K (.ref f7) = true)
        (a8 : PySem.W.nsIn K mainGlobals "_law_codes" = some (some (.ref f8))) (l8 : K.lookup f8 = some ⟨oc8, od8, .func (PySem.W.fnOf "_law_codes" "_law_codes" (defArgs s_l_codes) (defBody s_l_codes) (defScope s_l_codes) .none kV8 dc8 pm8 an8 cd8 ct8), sl8⟩) (c8 : PySem.W.codeIn K cd8 "_law_codes" = true) (k8 : PySem.W.keepIn K (.ref f8) = true)
        (a9 : PySem.W.nsIn K mainGlobals "_law_by_place" = some (some (.ref f9))) (l9 : K.lookup f9 = some ⟨oc9, od9, .func (PySem.W.fnOf "_law_by_place" "_law_by_place" (defArgs s_l_by_place) (defBody s_l_by_place) (defScope s_l_by_place) .none kV9 dc9 pm9 an9 cd9 ct9), sl9⟩) (c9 : PySem.W.codeIn K cd9 "_law_by_place" = true) (k9 : PySem.W.keepIn K (.ref f9) = true)
        (a10 : PySem.W.nsIn K mainGlobals "_law_by_name" = some (some (.ref f10))) (l10 : K.lookup f10 = some ⟨oc10, od10, .func (PySem.W.fnOf "_law_by_name" "_law_by_name" (defArgs s_l_by_name) (defBody s_l_by_name) (defScope s_l_by_name) .none kV10 dc10 pm10 an10 cd10 ct10), sl10⟩) (c10 : PySem.W.codeIn K cd10 "_law_by_name" = true) (k10 : PySem.W.keepIn K (.ref f10) = true)
        (a11 : PySem.W.nsIn K mainGlobals "_law_due" = some (some (.ref f11))) (l11 : K.lookup f11 = some ⟨oc11, od11, .func (PySem.W.fnOf "_law_due" "_law_due" (defArgs s_l_due) (defBody s_l_due) (defScope s_l_due) .none kV11 dc11 pm11 an11 cd11 ct11), sl11⟩) (c11 : PySem.W.codeIn K cd11 "_law_due" = true) (k11 : PySem.W.keepIn K (.ref f11) = true)
        (a12 : PySem.W.nsIn K mainGlobals "_law_told" = some (some (.ref f12))) (l12 : K.lookup f12 = some ⟨oc12, od12, .func (PySem.W.fnOf "_law_told" "_law_told" (defArgs s_l_told) (defBody s_l_told) (defScope s_l_told) .none kV12 dc12 pm12 an12 cd12 ct12), sl12⟩) (c12 : PySem.W.codeIn K cd12 "_law_told" = true) (k12 : PySem.W.keepIn K (.ref f12) = true)
        (a13 : PySem.W.nsIn K mainGlobals "_law_kinds" = some (some (.ref f13))) (l13 : K.lookup f13 = some ⟨oc13, od13, .func (PySem.W.fnOf "_law_kinds" "_law_kinds" (defArgs s_l_kinds) (defBody s_l_kinds) (defScope s_l_kinds) .none kV13 dc13 pm13 an13 cd13 ct13), sl13⟩) (c13 : PySem.W.codeIn K cd13 "_law_kinds" = true) (k13 : PySem.W.keepIn K (.ref f13) = true)
        (a14 : PySem.W.nsIn K mainGlobals "_law_bases" = some (some (.ref f14))) (l14 : K.lookup f14 = some ⟨oc14, od14, .func (PySem.W.fnOf "_law_bases" "_law_bases" (defArgs s_l_bases) (defBody s_l_bases) (defScope s_l_bases) .none kV14 dc14 pm14 an14 cd14 ct14), sl14⟩) (c14 : PySem.W.codeIn K cd14 "_law_bases" = true) (k14 : PySem.W.keepIn K (.ref f14) = true)
        (a15 : PySem.W.nsIn K mainGlobals "_law_all_so" = some (some (.ref f15))) (l15 : K.lookup f15 = some ⟨oc15, od15, .func (PySem.W.fnOf "_law_all_so" "_law_all_so" (defArgs s_l_all_so) (defBody s_l_all_so) (defScope s_l_all_so) .none kV15 dc15 pm15 an15 cd15 ct15), sl15⟩) (c15 : PySem.W.codeIn K cd15 "_law_all_so" = true) (k15 : PySem.W.keepIn K (.ref f15) = true)
        (a16 : PySem.W.nsIn K mainGlobals "_law_raised" = some (some (.ref f16))) (l16 : K.lookup f16 = some ⟨oc16, od16, .func (PySem.W.fnOf "_law_raised" "_law_raised" (defArgs s_l_raised) (defBody s_l_raised) (defScope s_l_raised) .none kV16 dc16 pm16 an16 cd16 ct16), sl16⟩) (c16 : PySem.W.codeIn K cd16 "_law_raised" = true) (k16 : PySem.W.keepIn K (.ref f16) = true)
        (a17 : PySem.W.nsIn K mainGlobals "law" = some (some (.ref f17))) (l17 : K.lookup f17 = some ⟨oc17, od17, .func (PySem.W.fnOf "law" "law" (defArgs s_p_law) (defBody s_p_law) (defScope s_p_law) .none kV17 dc17 pm17 an17 cd17 ct17), sl17⟩) (c17 : PySem.W.codeIn K cd17 "law" = true) (k17 : PySem.W.keepIn K (.ref f17) = true)
        (z_len : PySem.W.nsIn K mainGlobals "len" = some none)
        (z_range : PySem.W.nsIn K mainGlobals "range" = some none)
        (z_int : PySem.W.nsIn K mainGlobals "int" = some none)
        (z_abs : PySem.W.nsIn K mainGlobals "abs" = some none)
        (z_isinstance : PySem.W.nsIn K mainGlobals "isinstance" = some none)
        (z_all : PySem.W.nsIn K mainGlobals "all" = some none)
        (z_any : PySem.W.nsIn K mainGlobals "any" = some none)
        (z_sorted : PySem.W.nsIn K mainGlobals "sorted" = some none)
        (z_set : PySem.W.nsIn K mainGlobals "set" = some none)
        (z_list : PySem.W.nsIn K mainGlobals "list" = some none)
        (z_tuple : PySem.W.nsIn K mainGlobals "tuple" = some none)
        (z_str : PySem.W.nsIn K mainGlobals "str" = some none)
        (z_bool : PySem.W.nsIn K mainGlobals "bool" = some none)
        (z_enumerate : PySem.W.nsIn K mainGlobals "enumerate" = some none)
        (z_min : PySem.W.nsIn K mainGlobals "min" = some none)
        (z_max : PySem.W.nsIn K mainGlobals "max" = some none)
        (ab1 : PySem.W.nsIn K mainGlobals "FindError" = some (some (.ref b1)))
        (ab2 : PySem.W.nsIn K mainGlobals "Missing" = some (some (.ref b2)))
        (a18 : PySem.W.nsIn K mainGlobals "InvalidName" = some (some (.ref C18)))
        (ei18 : PySem.W.excInitIn K C18 [.type "ValueError", .type "Exception", .type "BaseException", .type "object"] "ValueError.__new__" = true)
        (eo18 : PySem.W.excOver K C18 [.type "ValueError", .type "Exception", .type "BaseException", .type "object"] = true)
        (sa18 : PySem.W.findIn K (.ref C18) "__setattr__" = some (some (.builtin "object.__setattr__")))
        (ex18 : PySem.W.subIn K (.ref C18) (.type "BaseException") = some true)
        (ty18 : PySem.W.typeIn K (.ref C18) = some (.type "type"))
        (kC18 : PySem.W.keepIn K (.ref C18) = true)
        (hd18 : PySem.W.hasDictIn K C18 = true)
        (ga18 : PySem.W.findIn K (.ref C18) "__getattribute__" = some (some (.builtin "BaseException.__getattribute__")))
        (gg18 : PySem.W.findIn K (.ref C18) "__getattr__" = some none)
        (in18 : PySem.W.findIn K (.ref C18) "__init__" = some (some (.ref f18)))
        (ti18 : PySem.W.typeIn K (.ref f18) = some (.type "function"))
        (l18 : K.lookup f18 = some ⟨oc18, od18, .func (PySem.W.fnOf "__init__" "InvalidName.__init__" (defArgs s_c_InvalidName_init) (defBody s_c_InvalidName_init) (defScope s_c_InvalidName_init) .none kV18 dc18 pm18 an18 cd18 ct18), sl18⟩) (c18 : PySem.W.codeIn K cd18 "InvalidName.__init__" = true) (k18 : PySem.W.keepIn K (.ref f18) = true)
        (nf18_0 : PySem.W.findIn K (.ref C18) "value" = some none)
        (nf18_1 : PySem.W.findIn K (.ref C18) "code" = some none)
        (a19 : PySem.W.nsIn K mainGlobals "InvalidLot" = some (some (.ref C19)))
        (ei19 : PySem.W.excInitIn K C19 [.type "ValueError", .type "Exception", .type "BaseException", .type "object"] "ValueError.__new__" = true)
        (eo19 : PySem.W.excOver K C19 [.type "ValueError", .type "Exception", .type "BaseException", .type "object"] = true)
        (sa19 : PySem.W.findIn K (.ref C19) "__setattr__" = some (some (.builtin "object.__setattr__")))
        (ex19 : PySem.W.subIn K (.ref C19) (.type "BaseException") = some true)
        (ty19 : PySem.W.typeIn K (.ref C19) = some (.type "type"))
        (kC19 : PySem.W.keepIn K (.ref C19) = true)
        (hd19 : PySem.W.hasDictIn K C19 = true)
        (ga19 : PySem.W.findIn K (.ref C19) "__getattribute__" = some (some (.builtin "BaseException.__getattribute__")))
        (gg19 : PySem.W.findIn K (.ref C19) "__getattr__" = some none)
        (in19 : PySem.W.findIn K (.ref C19) "__init__" = some (some (.ref f19)))
        (ti19 : PySem.W.typeIn K (.ref f19) = some (.type "function"))
        (l19 : K.lookup f19 = some ⟨oc19, od19, .func (PySem.W.fnOf "__init__" "InvalidLot.__init__" (defArgs s_c_InvalidLot_init) (defBody s_c_InvalidLot_init) (defScope s_c_InvalidLot_init) .none kV19 dc19 pm19 an19 cd19 ct19), sl19⟩) (c19 : PySem.W.codeIn K cd19 "InvalidLot.__init__" = true) (k19 : PySem.W.keepIn K (.ref f19) = true)
        (nf19_0 : PySem.W.findIn K (.ref C19) "at" = some none)
        (nf19_1 : PySem.W.findIn K (.ref C19) "code" = some none)
        (a20 : PySem.W.nsIn K mainGlobals "InvalidFind" = some (some (.ref C20)))
        (ei20 : PySem.W.excInitIn K C20 [.type "ValueError", .type "Exception", .type "BaseException", .type "object"] "ValueError.__new__" = true)
        (eo20 : PySem.W.excOver K C20 [.type "ValueError", .type "Exception", .type "BaseException", .type "object"] = true)
        (sa20 : PySem.W.findIn K (.ref C20) "__setattr__" = some (some (.builtin "object.__setattr__")))
        (ex20 : PySem.W.subIn K (.ref C20) (.type "BaseException") = some true)
        (ty20 : PySem.W.typeIn K (.ref C20) = some (.type "type"))
        (kC20 : PySem.W.keepIn K (.ref C20) = true)
        (hd20 : PySem.W.hasDictIn K C20 = true)
        (ga20 : PySem.W.findIn K (.ref C20) "__getattribute__" = some (some (.builtin "BaseException.__getattribute__")))
        (gg20 : PySem.W.findIn K (.ref C20) "__getattr__" = some none)
        (in20 : PySem.W.findIn K (.ref C20) "__init__" = some (some (.ref f20)))
        (ti20 : PySem.W.typeIn K (.ref f20) = some (.type "function"))
        (l20 : K.lookup f20 = some ⟨oc20, od20, .func (PySem.W.fnOf "__init__" "InvalidFind.__init__" (defArgs s_c_InvalidFind_init) (defBody s_c_InvalidFind_init) (defScope s_c_InvalidFind_init) .none kV20 dc20 pm20 an20 cd20 ct20), sl20⟩) (c20 : PySem.W.codeIn K cd20 "InvalidFind.__init__" = true) (k20 : PySem.W.keepIn K (.ref f20) = true)
        (nf20_0 : PySem.W.findIn K (.ref C20) "at" = some none)
        (nf20_1 : PySem.W.findIn K (.ref C20) "code" = some none)
        (a21 : PySem.W.nsIn K mainGlobals "InvalidWord" = some (some (.ref C21)))
        (ei21 : PySem.W.excInitIn K C21 [.type "ValueError", .type "Exception", .type "BaseException", .type "object"] "ValueError.__new__" = true)
        (eo21 : PySem.W.excOver K C21 [.type "ValueError", .type "Exception", .type "BaseException", .type "object"] = true)
        (sa21 : PySem.W.findIn K (.ref C21) "__setattr__" = some (some (.builtin "object.__setattr__")))
        (ex21 : PySem.W.subIn K (.ref C21) (.type "BaseException") = some true)
        (ty21 : PySem.W.typeIn K (.ref C21) = some (.type "type"))
        (kC21 : PySem.W.keepIn K (.ref C21) = true)
        (hd21 : PySem.W.hasDictIn K C21 = true)
        (ga21 : PySem.W.findIn K (.ref C21) "__getattribute__" = some (some (.builtin "BaseException.__getattribute__")))
        (gg21 : PySem.W.findIn K (.ref C21) "__getattr__" = some none)
        (in21 : PySem.W.findIn K (.ref C21) "__init__" = some (some (.ref f21)))
        (ti21 : PySem.W.typeIn K (.ref f21) = some (.type "function"))
        (l21 : K.lookup f21 = some ⟨oc21, od21, .func (PySem.W.fnOf "__init__" "InvalidWord.__init__" (defArgs s_c_InvalidWord_init) (defBody s_c_InvalidWord_init) (defScope s_c_InvalidWord_init) .none kV21 dc21 pm21 an21 cd21 ct21), sl21⟩) (c21 : PySem.W.codeIn K cd21 "InvalidWord.__init__" = true) (k21 : PySem.W.keepIn K (.ref f21) = true)
        (nf21_0 : PySem.W.findIn K (.ref C21) "at" = some none)
        (nf21_1 : PySem.W.findIn K (.ref C21) "code" = some none)
        (a22 : PySem.W.nsIn K mainGlobals "InvalidFact" = some (some (.ref C22)))
        (ei22 : PySem.W.excInitIn K C22 [.type "ValueError", .type "Exception", .type "BaseException", .type "object"] "ValueError.__new__" = true)
        (eo22 : PySem.W.excOver K C22 [.type "ValueError", .type "Exception", .type "BaseException", .type "object"] = true)
        (sa22 : PySem.W.findIn K (.ref C22) "__setattr__" = some (some (.builtin "object.__setattr__")))
        (ex22 : PySem.W.subIn K (.ref C22) (.type "BaseException") = some true)
        (ty22 : PySem.W.typeIn K (.ref C22) = some (.type "type"))
        (kC22 : PySem.W.keepIn K (.ref C22) = true)
        (hd22 : PySem.W.hasDictIn K C22 = true)
        (ga22 : PySem.W.findIn K (.ref C22) "__getattribute__" = some (some (.builtin "BaseException.__getattribute__")))
        (gg22 : PySem.W.findIn K (.ref C22) "__getattr__" = some none)
        (in22 : PySem.W.findIn K (.ref C22) "__init__" = some (some (.ref f22)))
        (ti22 : PySem.W.typeIn K (.ref f22) = some (.type "function"))
        (l22 : K.lookup f22 = some ⟨oc22, od22, .func (PySem.W.fnOf "__init__" "InvalidFact.__init__" (defArgs s_c_InvalidFact_init) (defBody s_c_InvalidFact_init) (defScope s_c_InvalidFact_init) .none kV22 dc22 pm22 an22 cd22 ct22), sl22⟩) (c22 : PySem.W.codeIn K cd22 "InvalidFact.__init__" = true) (k22 : PySem.W.keepIn K (.ref f22) = true)
        (nf22_0 : PySem.W.findIn K (.ref C22) "at" = some none)
        (nf22_1 : PySem.W.findIn K (.ref C22) "code" = some none)
        (a23 : PySem.W.nsIn K mainGlobals "InvalidOrder" = some (some (.ref C23)))
        (ei23 : PySem.W.excInitIn K C23 [.type "ValueError", .type "Exception", .type "BaseException", .type "object"] "ValueError.__new__" = true)
        (eo23 : PySem.W.excOver K C23 [.type "ValueError", .type "Exception", .type "BaseException", .type "object"] = true)
        (sa23 : PySem.W.findIn K (.ref C23) "__setattr__" = some (some (.builtin "object.__setattr__")))
        (ex23 : PySem.W.subIn K (.ref C23) (.type "BaseException") = some true)
        (ty23 : PySem.W.typeIn K (.ref C23) = some (.type "type"))
        (kC23 : PySem.W.keepIn K (.ref C23) = true)
        (hd23 : PySem.W.hasDictIn K C23 = true)
        (ga23 : PySem.W.findIn K (.ref C23) "__getattribute__" = some (some (.builtin "BaseException.__getattribute__")))
        (gg23 : PySem.W.findIn K (.ref C23) "__getattr__" = some none)
        (in23 : PySem.W.findIn K (.ref C23) "__init__" = some (some (.ref f23)))
        (ti23 : PySem.W.typeIn K (.ref f23) = some (.type "function"))
        (l23 : K.lookup f23 = some ⟨oc23, od23, .func (PySem.W.fnOf "__init__" "InvalidOrder.__init__" (defArgs s_c_InvalidOrder_init) (defBody s_c_InvalidOrder_init) (defScope s_c_InvalidOrder_init) .none kV23 dc23 pm23 an23 cd23 ct23), sl23⟩) (c23 : PySem.W.codeIn K cd23 "InvalidOrder.__init__" = true) (k23 : PySem.W.keepIn K (.ref f23) = true)
        (nf23_0 : PySem.W.findIn K (.ref C23) "at" = some none)
        (nf23_1 : PySem.W.findIn K (.ref C23) "code" = some none)
        (a24 : PySem.W.nsIn K mainGlobals "InvalidKind" = some (some (.ref C24)))
        (ei24 : PySem.W.excInitIn K C24 [.type "ValueError", .type "Exception", .type "BaseException", .type "object"] "ValueError.__new__" = true)
        (eo24 : PySem.W.excOver K C24 [.type "ValueError", .type "Exception", .type "BaseException", .type "object"] = true)
        (sa24 : PySem.W.findIn K (.ref C24) "__setattr__" = some (some (.builtin "object.__setattr__")))
        (ex24 : PySem.W.subIn K (.ref C24) (.type "BaseException") = some true)
        (ty24 : PySem.W.typeIn K (.ref C24) = some (.type "type"))
        (kC24 : PySem.W.keepIn K (.ref C24) = true)
        (hd24 : PySem.W.hasDictIn K C24 = true)
        (ga24 : PySem.W.findIn K (.ref C24) "__getattribute__" = some (some (.builtin "BaseException.__getattribute__")))
        (gg24 : PySem.W.findIn K (.ref C24) "__getattr__" = some none)
        (in24 : PySem.W.findIn K (.ref C24) "__init__" = some (some (.ref f24)))
        (ti24 : PySem.W.typeIn K (.ref f24) = some (.type "function"))
        (l24 : K.lookup f24 = some ⟨oc24, od24, .func (PySem.W.fnOf "__init__" "InvalidKind.__init__" (defArgs s_c_InvalidKind_init) (defBody s_c_InvalidKind_init) (defScope s_c_InvalidKind_init) .none kV24 dc24 pm24 an24 cd24 ct24), sl24⟩) (c24 : PySem.W.codeIn K cd24 "InvalidKind.__init__" = true) (k24 : PySem.W.keepIn K (.ref f24) = true)
        (nf24_0 : PySem.W.findIn K (.ref C24) "at" = some none)
        (nf24_1 : PySem.W.findIn K (.ref C24) "code" = some none)
        (a25 : PySem.W.nsIn K mainGlobals "InvalidPair" = some (some (.ref C25)))
        (ei25 : PySem.W.excInitIn K C25 [.type "ValueError", .type "Exception", .type "BaseException", .type "object"] "ValueError.__new__" = true)
        (eo25 : PySem.W.excOver K C25 [.type "ValueError", .type "Exception", .type "BaseException", .type "object"] = true)
        (sa25 : PySem.W.findIn K (.ref C25) "__setattr__" = some (some (.builtin "object.__setattr__")))
        (ex25 : PySem.W.subIn K (.ref C25) (.type "BaseException") = some true)
        (ty25 : PySem.W.typeIn K (.ref C25) = some (.type "type"))
        (kC25 : PySem.W.keepIn K (.ref C25) = true)
        (hd25 : PySem.W.hasDictIn K C25 = true)
        (ga25 : PySem.W.findIn K (.ref C25) "__getattribute__" = some (some (.builtin "BaseException.__getattribute__")))
        (gg25 : PySem.W.findIn K (.ref C25) "__getattr__" = some none)
        (in25 : PySem.W.findIn K (.ref C25) "__init__" = some (some (.ref f25)))
        (ti25 : PySem.W.typeIn K (.ref f25) = some (.type "function"))
        (l25 : K.lookup f25 = some ⟨oc25, od25, .func (PySem.W.fnOf "__init__" "InvalidPair.__init__" (defArgs s_c_InvalidPair_init) (defBody s_c_InvalidPair_init) (defScope s_c_InvalidPair_init) .none kV25 dc25 pm25 an25 cd25 ct25), sl25⟩) (c25 : PySem.W.codeIn K cd25 "InvalidPair.__init__" = true) (k25 : PySem.W.keepIn K (.ref f25) = true)
        (nf25_0 : PySem.W.findIn K (.ref C25) "at" = some none)
        (nf25_1 : PySem.W.findIn K (.ref C25) "code" = some none)
        (a26 : PySem.W.nsIn K mainGlobals "InvalidDeed" = some (some (.ref C26)))
        (ei26 : PySem.W.excInitIn K C26 [.type "ValueError", .type "Exception", .type "BaseException", .type "object"] "ValueError.__new__" = true)
        (eo26 : PySem.W.excOver K C26 [.type "ValueError", .type "Exception", .type "BaseException", .type "object"] = true)
        (sa26 : PySem.W.findIn K (.ref C26) "__setattr__" = some (some (.builtin "object.__setattr__")))
        (ex26 : PySem.W.subIn K (.ref C26) (.type "BaseException") = some true)
        (ty26 : PySem.W.typeIn K (.ref C26) = some (.type "type"))
        (kC26 : PySem.W.keepIn K (.ref C26) = true)
        (hd26 : PySem.W.hasDictIn K C26 = true)
        (ga26 : PySem.W.findIn K (.ref C26) "__getattribute__" = some (some (.builtin "BaseException.__getattribute__")))
        (gg26 : PySem.W.findIn K (.ref C26) "__getattr__" = some none)
        (in26 : PySem.W.findIn K (.ref C26) "__init__" = some (some (.ref f26)))
        (ti26 : PySem.W.typeIn K (.ref f26) = some (.type "function"))
        (l26 : K.lookup f26 = some ⟨oc26, od26, .func (PySem.W.fnOf "__init__" "InvalidDeed.__init__" (defArgs s_c_InvalidDeed_init) (defBody s_c_InvalidDeed_init) (defScope s_c_InvalidDeed_init) .none kV26 dc26 pm26 an26 cd26 ct26), sl26⟩) (c26 : PySem.W.codeIn K cd26 "InvalidDeed.__init__" = true) (k26 : PySem.W.keepIn K (.ref f26) = true)
        (nf26_0 : PySem.W.findIn K (.ref C26) "at" = some none)
        (nf26_1 : PySem.W.findIn K (.ref C26) "code" = some none)
        (a27 : PySem.W.nsIn K mainGlobals "InvalidText" = some (some (.ref C27)))
        (ei27 : PySem.W.excInitIn K C27 [.type "ValueError", .type "Exception", .type "BaseException", .type "object"] "ValueError.__new__" = true)
        (eo27 : PySem.W.excOver K C27 [.type "ValueError", .type "Exception", .type "BaseException", .type "object"] = true)
        (sa27 : PySem.W.findIn K (.ref C27) "__setattr__" = some (some (.builtin "object.__setattr__")))
        (ex27 : PySem.W.subIn K (.ref C27) (.type "BaseException") = some true)
        (ty27 : PySem.W.typeIn K (.ref C27) = some (.type "type"))
        (kC27 : PySem.W.keepIn K (.ref C27) = true)
        (hd27 : PySem.W.hasDictIn K C27 = true)
        (ga27 : PySem.W.findIn K (.ref C27) "__getattribute__" = some (some (.builtin "BaseException.__getattribute__")))
        (gg27 : PySem.W.findIn K (.ref C27) "__getattr__" = some none)
        (in27 : PySem.W.findIn K (.ref C27) "__init__" = some (some (.ref f27)))
        (ti27 : PySem.W.typeIn K (.ref f27) = some (.type "function"))
        (l27 : K.lookup f27 = some ⟨oc27, od27, .func (PySem.W.fnOf "__init__" "InvalidText.__init__" (defArgs s_c_InvalidText_init) (defBody s_c_InvalidText_init) (defScope s_c_InvalidText_init) .none kV27 dc27 pm27 an27 cd27 ct27), sl27⟩) (c27 : PySem.W.codeIn K cd27 "InvalidText.__init__" = true) (k27 : PySem.W.keepIn K (.ref f27) = true)
        (nf27_0 : PySem.W.findIn K (.ref C27) "line" = some none)
        (nf27_1 : PySem.W.findIn K (.ref C27) "why" = some none)
        (nf27_2 : PySem.W.findIn K (.ref C27) "code" = some none)
        (a28 : PySem.W.nsIn K mainGlobals "InvalidNumber" = some (some (.ref C28)))
        (ei28 : PySem.W.excInitIn K C28 [.type "ValueError", .type "Exception", .type "BaseException", .type "object"] "ValueError.__new__" = true)
        (eo28 : PySem.W.excOver K C28 [.type "ValueError", .type "Exception", .type "BaseException", .type "object"] = true)
        (sa28 : PySem.W.findIn K (.ref C28) "__setattr__" = some (some (.builtin "object.__setattr__")))
        (ex28 : PySem.W.subIn K (.ref C28) (.type "BaseException") = some true)
        (ty28 : PySem.W.typeIn K (.ref C28) = some (.type "type"))
        (kC28 : PySem.W.keepIn K (.ref C28) = true)
        (hd28 : PySem.W.hasDictIn K C28 = true)
        (ga28 : PySem.W.findIn K (.ref C28) "__getattribute__" = some (some (.builtin "BaseException.__getattribute__")))
        (gg28 : PySem.W.findIn K (.ref C28) "__getattr__" = some none)
        (in28 : PySem.W.findIn K (.ref C28) "__init__" = some (some (.ref f28)))
        (ti28 : PySem.W.typeIn K (.ref f28) = some (.type "function"))
        (l28 : K.lookup f28 = some ⟨oc28, od28, .func (PySem.W.fnOf "__init__" "InvalidNumber.__init__" (defArgs s_c_InvalidNumber_init) (defBody s_c_InvalidNumber_init) (defScope s_c_InvalidNumber_init) .none kV28 dc28 pm28 an28 cd28 ct28), sl28⟩) (c28 : PySem.W.codeIn K cd28 "InvalidNumber.__init__" = true) (k28 : PySem.W.keepIn K (.ref f28) = true)
        (nf28_0 : PySem.W.findIn K (.ref C28) "value" = some none)
        (nf28_1 : PySem.W.findIn K (.ref C28) "code" = some none)
        (a29 : PySem.W.nsIn K mainGlobals "InvalidStatement" = some (some (.ref C29)))
        (ei29 : PySem.W.excInitIn K C29 [.type "ValueError", .type "Exception", .type "BaseException", .type "object"] "ValueError.__new__" = true)
        (eo29 : PySem.W.excOver K C29 [.type "ValueError", .type "Exception", .type "BaseException", .type "object"] = true)
        (sa29 : PySem.W.findIn K (.ref C29) "__setattr__" = some (some (.builtin "object.__setattr__")))
        (ex29 : PySem.W.subIn K (.ref C29) (.type "BaseException") = some true)
        (ty29 : PySem.W.typeIn K (.ref C29) = some (.type "type"))
        (kC29 : PySem.W.keepIn K (.ref C29) = true)
        (hd29 : PySem.W.hasDictIn K C29 = true)
        (ga29 : PySem.W.findIn K (.ref C29) "__getattribute__" = some (some (.builtin "BaseException.__getattribute__")))
        (gg29 : PySem.W.findIn K (.ref C29) "__getattr__" = some none)
        (in29 : PySem.W.findIn K (.ref C29) "__init__" = some (some (.ref f29)))
        (ti29 : PySem.W.typeIn K (.ref f29) = some (.type "function"))
        (l29 : K.lookup f29 = some ⟨oc29, od29, .func (PySem.W.fnOf "__init__" "InvalidStatement.__init__" (defArgs s_c_InvalidStatement_init) (defBody s_c_InvalidStatement_init) (defScope s_c_InvalidStatement_init) .none kV29 dc29 pm29 an29 cd29 ct29), sl29⟩) (c29 : PySem.W.codeIn K cd29 "InvalidStatement.__init__" = true) (k29 : PySem.W.keepIn K (.ref f29) = true)
        (nf29_0 : PySem.W.findIn K (.ref C29) "code" = some none)
        (a30 : PySem.W.nsIn K mainGlobals "InvalidQuestion" = some (some (.ref C30)))
        (ei30 : PySem.W.excInitIn K C30 [.type "ValueError", .type "Exception", .type "BaseException", .type "object"] "ValueError.__new__" = true)
        (eo30 : PySem.W.excOver K C30 [.type "ValueError", .type "Exception", .type "BaseException", .type "object"] = true)
        (sa30 : PySem.W.findIn K (.ref C30) "__setattr__" = some (some (.builtin "object.__setattr__")))
        (ex30 : PySem.W.subIn K (.ref C30) (.type "BaseException") = some true)
        (ty30 : PySem.W.typeIn K (.ref C30) = some (.type "type"))
        (kC30 : PySem.W.keepIn K (.ref C30) = true)
        (hd30 : PySem.W.hasDictIn K C30 = true)
        (ga30 : PySem.W.findIn K (.ref C30) "__getattribute__" = some (some (.builtin "BaseException.__getattribute__")))
        (gg30 : PySem.W.findIn K (.ref C30) "__getattr__" = some none)
        (in30 : PySem.W.findIn K (.ref C30) "__init__" = some (some (.ref f30)))
        (ti30 : PySem.W.typeIn K (.ref f30) = some (.type "function"))
        (l30 : K.lookup f30 = some ⟨oc30, od30, .func (PySem.W.fnOf "__init__" "InvalidQuestion.__init__" (defArgs s_c_InvalidQuestion_init) (defBody s_c_InvalidQuestion_init) (defScope s_c_InvalidQuestion_init) .none kV30 dc30 pm30 an30 cd30 ct30), sl30⟩) (c30 : PySem.W.codeIn K cd30 "InvalidQuestion.__init__" = true) (k30 : PySem.W.keepIn K (.ref f30) = true)
        (nf30_0 : PySem.W.findIn K (.ref C30) "code" = some none)
        (a31 : PySem.W.nsIn K mainGlobals "InvalidClaim" = some (some (.ref C31)))
        (ei31 : PySem.W.excInitIn K C31 [.type "ValueError", .type "Exception", .type "BaseException", .type "object"] "ValueError.__new__" = true)
        (eo31 : PySem.W.excOver K C31 [.type "ValueError", .type "Exception", .type "BaseException", .type "object"] = true)
        (sa31 : PySem.W.findIn K (.ref C31) "__setattr__" = some (some (.builtin "object.__setattr__")))
        (ex31 : PySem.W.subIn K (.ref C31) (.type "BaseException") = some true)
        (ty31 : PySem.W.typeIn K (.ref C31) = some (.type "type"))
        (kC31 : PySem.W.keepIn K (.ref C31) = true)
        (hd31 : PySem.W.hasDictIn K C31 = true)
        (ga31 : PySem.W.findIn K (.ref C31) "__getattribute__" = some (some (.builtin "BaseException.__getattribute__")))
        (gg31 : PySem.W.findIn K (.ref C31) "__getattr__" = some none)
        (in31 : PySem.W.findIn K (.ref C31) "__init__" = some (some (.ref f31)))
        (ti31 : PySem.W.typeIn K (.ref f31) = some (.type "function"))
        (l31 : K.lookup f31 = some ⟨oc31, od31, .func (PySem.W.fnOf "__init__" "InvalidClaim.__init__" (defArgs s_c_InvalidClaim_init) (defBody s_c_InvalidClaim_init) (defScope s_c_InvalidClaim_init) .none kV31 dc31 pm31 an31 cd31 ct31), sl31⟩) (c31 : PySem.W.codeIn K cd31 "InvalidClaim.__init__" = true) (k31 : PySem.W.keepIn K (.ref f31) = true)
        (nf31_0 : PySem.W.findIn K (.ref C31) "code" = some none)
        (a32 : PySem.W.nsIn K mainGlobals "InvalidTimes" = some (some (.ref C32)))
        (ei32 : PySem.W.excInitIn K C32 [.type "ValueError", .type "Exception", .type "BaseException", .type "object"] "ValueError.__new__" = true)
        (eo32 : PySem.W.excOver K C32 [.type "ValueError", .type "Exception", .type "BaseException", .type "object"] = true)
        (sa32 : PySem.W.findIn K (.ref C32) "__setattr__" = some (some (.builtin "object.__setattr__")))
        (ex32 : PySem.W.subIn K (.ref C32) (.type "BaseException") = some true)
        (ty32 : PySem.W.typeIn K (.ref C32) = some (.type "type"))
        (kC32 : PySem.W.keepIn K (.ref C32) = true)
        (hd32 : PySem.W.hasDictIn K C32 = true)
        (ga32 : PySem.W.findIn K (.ref C32) "__getattribute__" = some (some (.builtin "BaseException.__getattribute__")))
        (gg32 : PySem.W.findIn K (.ref C32) "__getattr__" = some none)
        (in32 : PySem.W.findIn K (.ref C32) "__init__" = some (some (.ref f32)))
        (ti32 : PySem.W.typeIn K (.ref f32) = some (.type "function"))
        (l32 : K.lookup f32 = some ⟨oc32, od32, .func (PySem.W.fnOf "__init__" "InvalidTimes.__init__" (defArgs s_c_InvalidTimes_init) (defBody s_c_InvalidTimes_init) (defScope s_c_InvalidTimes_init) .none kV32 dc32 pm32 an32 cd32 ct32), sl32⟩) (c32 : PySem.W.codeIn K cd32 "InvalidTimes.__init__" = true) (k32 : PySem.W.keepIn K (.ref f32) = true)
        (nf32_0 : PySem.W.findIn K (.ref C32) "name" = some none)
        (nf32_1 : PySem.W.findIn K (.ref C32) "code" = some none)
        (a33 : PySem.W.nsIn K mainGlobals "InvalidWeights" = some (some (.ref C33)))
        (ei33 : PySem.W.excInitIn K C33 [.type "ValueError", .type "Exception", .type "BaseException", .type "object"] "ValueError.__new__" = true)
        (eo33 : PySem.W.excOver K C33 [.type "ValueError", .type "Exception", .type "BaseException", .type "object"] = true)
        (sa33 : PySem.W.findIn K (.ref C33) "__setattr__" = some (some (.builtin "object.__setattr__")))
        (ex33 : PySem.W.subIn K (.ref C33) (.type "BaseException") = some true)
        (ty33 : PySem.W.typeIn K (.ref C33) = some (.type "type"))
        (kC33 : PySem.W.keepIn K (.ref C33) = true)
        (hd33 : PySem.W.hasDictIn K C33 = true)
        (ga33 : PySem.W.findIn K (.ref C33) "__getattribute__" = some (some (.builtin "BaseException.__getattribute__")))
        (gg33 : PySem.W.findIn K (.ref C33) "__getattr__" = some none)
        (in33 : PySem.W.findIn K (.ref C33) "__init__" = some (some (.ref f33)))
        (ti33 : PySem.W.typeIn K (.ref f33) = some (.type "function"))
        (l33 : K.lookup f33 = some ⟨oc33, od33, .func (PySem.W.fnOf "__init__" "InvalidWeights.__init__" (defArgs s_c_InvalidWeights_init) (defBody s_c_InvalidWeights_init) (defScope s_c_InvalidWeights_init) .none kV33 dc33 pm33 an33 cd33 ct33), sl33⟩) (c33 : PySem.W.codeIn K cd33 "InvalidWeights.__init__" = true) (k33 : PySem.W.keepIn K (.ref f33) = true)
        (nf33_0 : PySem.W.findIn K (.ref C33) "name" = some none)
        (nf33_1 : PySem.W.findIn K (.ref C33) "code" = some none)
        (a34 : PySem.W.nsIn K mainGlobals "DuplicateName" = some (some (.ref C34)))
        (ei34 : PySem.W.excInitIn K C34 [.type "ValueError", .type "Exception", .type "BaseException", .type "object"] "ValueError.__new__" = true)
        (eo34 : PySem.W.excOver K C34 [.type "ValueError", .type "Exception", .type "BaseException", .type "object"] = true)
        (sa34 : PySem.W.findIn K (.ref C34) "__setattr__" = some (some (.builtin "object.__setattr__")))
        (ex34 : PySem.W.subIn K (.ref C34) (.type "BaseException") = some true)
        (ty34 : PySem.W.typeIn K (.ref C34) = some (.type "type"))
        (kC34 : PySem.W.keepIn K (.ref C34) = true)
        (hd34 : PySem.W.hasDictIn K C34 = true)
        (ga34 : PySem.W.findIn K (.ref C34) "__getattribute__" = some (some (.builtin "BaseException.__getattribute__")))
        (gg34 : PySem.W.findIn K (.ref C34) "__getattr__" = some none)
        (in34 : PySem.W.findIn K (.ref C34) "__init__" = some (some (.ref f34)))
        (ti34 : PySem.W.typeIn K (.ref f34) = some (.type "function"))
        (l34 : K.lookup f34 = some ⟨oc34, od34, .func (PySem.W.fnOf "__init__" "DuplicateName.__init__" (defArgs s_c_DuplicateName_init) (defBody s_c_DuplicateName_init) (defScope s_c_DuplicateName_init) .none kV34 dc34 pm34 an34 cd34 ct34), sl34⟩) (c34 : PySem.W.codeIn K cd34 "DuplicateName.__init__" = true) (k34 : PySem.W.keepIn K (.ref f34) = true)
        (nf34_0 : PySem.W.findIn K (.ref C34) "name" = some none)
        (nf34_1 : PySem.W.findIn K (.ref C34) "code" = some none)
        (a35 : PySem.W.nsIn K mainGlobals "TooMany" = some (some (.ref C35)))
        (ei35 : PySem.W.excInitIn K C35 [.type "ValueError", .type "Exception", .type "BaseException", .type "object"] "ValueError.__new__" = true)
        (eo35 : PySem.W.excOver K C35 [.type "ValueError", .type "Exception", .type "BaseException", .type "object"] = true)
        (sa35 : PySem.W.findIn K (.ref C35) "__setattr__" = some (some (.builtin "object.__setattr__")))
        (ex35 : PySem.W.subIn K (.ref C35) (.type "BaseException") = some true)
        (ty35 : PySem.W.typeIn K (.ref C35) = some (.type "type"))
        (kC35 : PySem.W.keepIn K (.ref C35) = true)
        (hd35 : PySem.W.hasDictIn K C35 = true)
        (ga35 : PySem.W.findIn K (.ref C35) "__getattribute__" = some (some (.builtin "BaseException.__getattribute__")))
        (gg35 : PySem.W.findIn K (.ref C35) "__getattr__" = some none)
        (in35 : PySem.W.findIn K (.ref C35) "__init__" = some (some (.ref f35)))
        (ti35 : PySem.W.typeIn K (.ref f35) = some (.type "function"))
        (l35 : K.lookup f35 = some ⟨oc35, od35, .func (PySem.W.fnOf "__init__" "TooMany.__init__" (defArgs s_c_TooMany_init) (defBody s_c_TooMany_init) (defScope s_c_TooMany_init) .none kV35 dc35 pm35 an35 cd35 ct35), sl35⟩) (c35 : PySem.W.codeIn K cd35 "TooMany.__init__" = true) (k35 : PySem.W.keepIn K (.ref f35) = true)
        (nf35_0 : PySem.W.findIn K (.ref C35) "most" = some none)
        (nf35_1 : PySem.W.findIn K (.ref C35) "code" = some none)
        (a36 : PySem.W.nsIn K mainGlobals "TooFew" = some (some (.ref C36)))
        (ei36 : PySem.W.excInitIn K C36 [.type "ValueError", .type "Exception", .type "BaseException", .type "object"] "ValueError.__new__" = true)
        (eo36 : PySem.W.excOver K C36 [.type "ValueError", .type "Exception", .type "BaseException", .type "object"] = true)
        (sa36 : PySem.W.findIn K (.ref C36) "__setattr__" = some (some (.builtin "object.__setattr__")))
        (ex36 : PySem.W.subIn K (.ref C36) (.type "BaseException") = some true)
        (ty36 : PySem.W.typeIn K (.ref C36) = some (.type "type"))
        (kC36 : PySem.W.keepIn K (.ref C36) = true)
        (hd36 : PySem.W.hasDictIn K C36 = true)
        (ga36 : PySem.W.findIn K (.ref C36) "__getattribute__" = some (some (.builtin "BaseException.__getattribute__")))
        (gg36 : PySem.W.findIn K (.ref C36) "__getattr__" = some none)
        (in36 : PySem.W.findIn K (.ref C36) "__init__" = some (some (.ref f36)))
        (ti36 : PySem.W.typeIn K (.ref f36) = some (.type "function"))
        (l36 : K.lookup f36 = some ⟨oc36, od36, .func (PySem.W.fnOf "__init__" "TooFew.__init__" (defArgs s_c_TooFew_init) (defBody s_c_TooFew_init) (defScope s_c_TooFew_init) .none kV36 dc36 pm36 an36 cd36 ct36), sl36⟩) (c36 : PySem.W.codeIn K cd36 "TooFew.__init__" = true) (k36 : PySem.W.keepIn K (.ref f36) = true)
        (nf36_0 : PySem.W.findIn K (.ref C36) "least" = some none)
        (nf36_1 : PySem.W.findIn K (.ref C36) "code" = some none)
        (a37 : PySem.W.nsIn K mainGlobals "CannotStand" = some (some (.ref C37)))
        (ei37 : PySem.W.excInitIn K C37 [.type "ValueError", .type "Exception", .type "BaseException", .type "object"] "ValueError.__new__" = true)
        (eo37 : PySem.W.excOver K C37 [.type "ValueError", .type "Exception", .type "BaseException", .type "object"] = true)
        (sa37 : PySem.W.findIn K (.ref C37) "__setattr__" = some (some (.builtin "object.__setattr__")))
        (ex37 : PySem.W.subIn K (.ref C37) (.type "BaseException") = some true)
        (ty37 : PySem.W.typeIn K (.ref C37) = some (.type "type"))
        (kC37 : PySem.W.keepIn K (.ref C37) = true)
        (hd37 : PySem.W.hasDictIn K C37 = true)
        (ga37 : PySem.W.findIn K (.ref C37) "__getattribute__" = some (some (.builtin "BaseException.__getattribute__")))
        (gg37 : PySem.W.findIn K (.ref C37) "__getattr__" = some none)
        (in37 : PySem.W.findIn K (.ref C37) "__init__" = some (some (.ref f37)))
        (ti37 : PySem.W.typeIn K (.ref f37) = some (.type "function"))
        (l37 : K.lookup f37 = some ⟨oc37, od37, .func (PySem.W.fnOf "__init__" "CannotStand.__init__" (defArgs s_c_CannotStand_init) (defBody s_c_CannotStand_init) (defScope s_c_CannotStand_init) .none kV37 dc37 pm37 an37 cd37 ct37), sl37⟩) (c37 : PySem.W.codeIn K cd37 "CannotStand.__init__" = true) (k37 : PySem.W.keepIn K (.ref f37) = true)
        (nf37_0 : PySem.W.findIn K (.ref C37) "one" = some none)
        (nf37_1 : PySem.W.findIn K (.ref C37) "two" = some none)
        (nf37_2 : PySem.W.findIn K (.ref C37) "three" = some none)
        (nf37_3 : PySem.W.findIn K (.ref C37) "code" = some none)
        (a38 : PySem.W.nsIn K mainGlobals "Standing" = some (some (.ref C38)))
        (ei38 : PySem.W.excInitIn K C38 [.type "ValueError", .type "Exception", .type "BaseException", .type "object"] "ValueError.__new__" = true)
        (eo38 : PySem.W.excOver K C38 [.type "ValueError", .type "Exception", .type "BaseException", .type "object"] = true)
        (sa38 : PySem.W.findIn K (.ref C38) "__setattr__" = some (some (.builtin "object.__setattr__")))
        (ex38 : PySem.W.subIn K (.ref C38) (.type "BaseException") = some true)
        (ty38 : PySem.W.typeIn K (.ref C38) = some (.type "type"))
        (kC38 : PySem.W.keepIn K (.ref C38) = true)
        (hd38 : PySem.W.hasDictIn K C38 = true)
        (ga38 : PySem.W.findIn K (.ref C38) "__getattribute__" = some (some (.builtin "BaseException.__getattribute__")))
        (gg38 : PySem.W.findIn K (.ref C38) "__getattr__" = some none)
        (in38 : PySem.W.findIn K (.ref C38) "__init__" = some (some (.ref f38)))
        (ti38 : PySem.W.typeIn K (.ref f38) = some (.type "function"))
        (l38 : K.lookup f38 = some ⟨oc38, od38, .func (PySem.W.fnOf "__init__" "Standing.__init__" (defArgs s_c_Standing_init) (defBody s_c_Standing_init) (defScope s_c_Standing_init) .none kV38 dc38 pm38 an38 cd38 ct38), sl38⟩) (c38 : PySem.W.codeIn K cd38 "Standing.__init__" = true) (k38 : PySem.W.keepIn K (.ref f38) = true)
        (nf38_0 : PySem.W.findIn K (.ref C38) "code" = some none)
        (a39 : PySem.W.nsIn K mainGlobals "Clash" = some (some (.ref C39)))
        (ei39 : PySem.W.excInitIn K C39 [.type "ValueError", .type "Exception", .type "BaseException", .type "object"] "ValueError.__new__" = true)
        (eo39 : PySem.W.excOver K C39 [.type "ValueError", .type "Exception", .type "BaseException", .type "object"] = true)
        (sa39 : PySem.W.findIn K (.ref C39) "__setattr__" = some (some (.builtin "object.__setattr__")))
        (ex39 : PySem.W.subIn K (.ref C39) (.type "BaseException") = some true)
        (ty39 : PySem.W.typeIn K (.ref C39) = some (.type "type"))
        (kC39 : PySem.W.keepIn K (.ref C39) = true)
        (hd39 : PySem.W.hasDictIn K C39 = true)
        (ga39 : PySem.W.findIn K (.ref C39) "__getattribute__" = some (some (.builtin "BaseException.__getattribute__")))
        (gg39 : PySem.W.findIn K (.ref C39) "__getattr__" = some none)
        (in39 : PySem.W.findIn K (.ref C39) "__init__" = some (some (.ref f39)))
        (ti39 : PySem.W.typeIn K (.ref f39) = some (.type "function"))
        (l39 : K.lookup f39 = some ⟨oc39, od39, .func (PySem.W.fnOf "__init__" "Clash.__init__" (defArgs s_c_Clash_init) (defBody s_c_Clash_init) (defScope s_c_Clash_init) .none kV39 dc39 pm39 an39 cd39 ct39), sl39⟩) (c39 : PySem.W.codeIn K cd39 "Clash.__init__" = true) (k39 : PySem.W.keepIn K (.ref f39) = true)
        (nf39_0 : PySem.W.findIn K (.ref C39) "marks" = some none)
        (nf39_1 : PySem.W.findIn K (.ref C39) "code" = some none)
        (a40 : PySem.W.nsIn K mainGlobals "NotFitting" = some (some (.ref C40)))
        (ei40 : PySem.W.excInitIn K C40 [.type "ValueError", .type "Exception", .type "BaseException", .type "object"] "ValueError.__new__" = true)
        (eo40 : PySem.W.excOver K C40 [.type "ValueError", .type "Exception", .type "BaseException", .type "object"] = true)
        (sa40 : PySem.W.findIn K (.ref C40) "__setattr__" = some (some (.builtin "object.__setattr__")))
        (ex40 : PySem.W.subIn K (.ref C40) (.type "BaseException") = some true)
        (ty40 : PySem.W.typeIn K (.ref C40) = some (.type "type"))
        (kC40 : PySem.W.keepIn K (.ref C40) = true)
        (hd40 : PySem.W.hasDictIn K C40 = true)
        (ga40 : PySem.W.findIn K (.ref C40) "__getattribute__" = some (some (.builtin "BaseException.__getattribute__")))
        (gg40 : PySem.W.findIn K (.ref C40) "__getattr__" = some none)
        (in40 : PySem.W.findIn K (.ref C40) "__init__" = some (some (.ref f40)))
        (ti40 : PySem.W.typeIn K (.ref f40) = some (.type "function"))
        (l40 : K.lookup f40 = some ⟨oc40, od40, .func (PySem.W.fnOf "__init__" "NotFitting.__init__" (defArgs s_c_NotFitting_init) (defBody s_c_NotFitting_init) (defScope s_c_NotFitting_init) .none kV40 dc40 pm40 an40 cd40 ct40), sl40⟩) (c40 : PySem.W.codeIn K cd40 "NotFitting.__init__" = true) (k40 : PySem.W.keepIn K (.ref f40) = true)
        (nf40_0 : PySem.W.findIn K (.ref C40) "code" = some none)
        (a41 : PySem.W.nsIn K mainGlobals "NotShown" = some (some (.ref C41)))
        (ei41 : PySem.W.excInitIn K C41 [.type "ValueError", .type "Exception", .type "BaseException", .type "object"] "ValueError.__new__" = true)
        (eo41 : PySem.W.excOver K C41 [.type "ValueError", .type "Exception", .type "BaseException", .type "object"] = true)
        (sa41 : PySem.W.findIn K (.ref C41) "__setattr__" = some (some (.builtin "object.__setattr__")))
        (ex41 : PySem.W.subIn K (.ref C41) (.type "BaseException") = some true)
        (ty41 : PySem.W.typeIn K (.ref C41) = some (.type "type"))
        (kC41 : PySem.W.keepIn K (.ref C41) = true)
        (hd41 : PySem.W.hasDictIn K C41 = true)
        (ga41 : PySem.W.findIn K (.ref C41) "__getattribute__" = some (some (.builtin "BaseException.__getattribute__")))
        (gg41 : PySem.W.findIn K (.ref C41) "__getattr__" = some none)
        (in41 : PySem.W.findIn K (.ref C41) "__init__" = some (some (.ref f41)))
        (ti41 : PySem.W.typeIn K (.ref f41) = some (.type "function"))
        (l41 : K.lookup f41 = some ⟨oc41, od41, .func (PySem.W.fnOf "__init__" "NotShown.__init__" (defArgs s_c_NotShown_init) (defBody s_c_NotShown_init) (defScope s_c_NotShown_init) .none kV41 dc41 pm41 an41 cd41 ct41), sl41⟩) (c41 : PySem.W.codeIn K cd41 "NotShown.__init__" = true) (k41 : PySem.W.keepIn K (.ref f41) = true)
        (nf41_0 : PySem.W.findIn K (.ref C41) "code" = some none)
        (a42 : PySem.W.nsIn K mainGlobals "NotABlock" = some (some (.ref C42)))
        (ei42 : PySem.W.excInitIn K C42 [.type "ValueError", .type "Exception", .type "BaseException", .type "object"] "ValueError.__new__" = true)
        (eo42 : PySem.W.excOver K C42 [.type "ValueError", .type "Exception", .type "BaseException", .type "object"] = true)
        (sa42 : PySem.W.findIn K (.ref C42) "__setattr__" = some (some (.builtin "object.__setattr__")))
        (ex42 : PySem.W.subIn K (.ref C42) (.type "BaseException") = some true)
        (ty42 : PySem.W.typeIn K (.ref C42) = some (.type "type"))
        (kC42 : PySem.W.keepIn K (.ref C42) = true)
        (hd42 : PySem.W.hasDictIn K C42 = true)
        (ga42 : PySem.W.findIn K (.ref C42) "__getattribute__" = some (some (.builtin "BaseException.__getattribute__")))
        (gg42 : PySem.W.findIn K (.ref C42) "__getattr__" = some none)
        (in42 : PySem.W.findIn K (.ref C42) "__init__" = some (some (.ref f42)))
        (ti42 : PySem.W.typeIn K (.ref f42) = some (.type "function"))
        (l42 : K.lookup f42 = some ⟨oc42, od42, .func (PySem.W.fnOf "__init__" "NotABlock.__init__" (defArgs s_c_NotABlock_init) (defBody s_c_NotABlock_init) (defScope s_c_NotABlock_init) .none kV42 dc42 pm42 an42 cd42 ct42), sl42⟩) (c42 : PySem.W.codeIn K cd42 "NotABlock.__init__" = true) (k42 : PySem.W.keepIn K (.ref f42) = true)
        (nf42_0 : PySem.W.findIn K (.ref C42) "lot" = some none)
        (nf42_1 : PySem.W.findIn K (.ref C42) "code" = some none)
        (a43 : PySem.W.nsIn K mainGlobals "OtherFinds" = some (some (.ref C43)))
        (ei43 : PySem.W.excInitIn K C43 [.type "ValueError", .type "Exception", .type "BaseException", .type "object"] "ValueError.__new__" = true)
        (eo43 : PySem.W.excOver K C43 [.type "ValueError", .type "Exception", .type "BaseException", .type "object"] = true)
        (sa43 : PySem.W.findIn K (.ref C43) "__setattr__" = some (some (.builtin "object.__setattr__")))
        (ex43 : PySem.W.subIn K (.ref C43) (.type "BaseException") = some true)
        (ty43 : PySem.W.typeIn K (.ref C43) = some (.type "type"))
        (kC43 : PySem.W.keepIn K (.ref C43) = true)
        (hd43 : PySem.W.hasDictIn K C43 = true)
        (ga43 : PySem.W.findIn K (.ref C43) "__getattribute__" = some (some (.builtin "BaseException.__getattribute__")))
        (gg43 : PySem.W.findIn K (.ref C43) "__getattr__" = some none)
        (in43 : PySem.W.findIn K (.ref C43) "__init__" = some (some (.ref f43)))
        (ti43 : PySem.W.typeIn K (.ref f43) = some (.type "function"))
        (l43 : K.lookup f43 = some ⟨oc43, od43, .func (PySem.W.fnOf "__init__" "OtherFinds.__init__" (defArgs s_c_OtherFinds_init) (defBody s_c_OtherFinds_init) (defScope s_c_OtherFinds_init) .none kV43 dc43 pm43 an43 cd43 ct43), sl43⟩) (c43 : PySem.W.codeIn K cd43 "OtherFinds.__init__" = true) (k43 : PySem.W.keepIn K (.ref f43) = true)
        (nf43_0 : PySem.W.findIn K (.ref C43) "code" = some none)
        (a44 : PySem.W.nsIn K mainGlobals "Same" = some (some (.ref C44)))
        (ei44 : PySem.W.excInitIn K C44 [.type "ValueError", .type "Exception", .type "BaseException", .type "object"] "ValueError.__new__" = true)
        (eo44 : PySem.W.excOver K C44 [.type "ValueError", .type "Exception", .type "BaseException", .type "object"] = true)
        (sa44 : PySem.W.findIn K (.ref C44) "__setattr__" = some (some (.builtin "object.__setattr__")))
        (ex44 : PySem.W.subIn K (.ref C44) (.type "BaseException") = some true)
        (ty44 : PySem.W.typeIn K (.ref C44) = some (.type "type"))
        (kC44 : PySem.W.keepIn K (.ref C44) = true)
        (hd44 : PySem.W.hasDictIn K C44 = true)
        (ga44 : PySem.W.findIn K (.ref C44) "__getattribute__" = some (some (.builtin "BaseException.__getattribute__")))
        (gg44 : PySem.W.findIn K (.ref C44) "__getattr__" = some none)
        (in44 : PySem.W.findIn K (.ref C44) "__init__" = some (some (.ref f44)))
        (ti44 : PySem.W.typeIn K (.ref f44) = some (.type "function"))
        (l44 : K.lookup f44 = some ⟨oc44, od44, .func (PySem.W.fnOf "__init__" "Same.__init__" (defArgs s_c_Same_init) (defBody s_c_Same_init) (defScope s_c_Same_init) .none kV44 dc44 pm44 an44 cd44 ct44), sl44⟩) (c44 : PySem.W.codeIn K cd44 "Same.__init__" = true) (k44 : PySem.W.keepIn K (.ref f44) = true)
        (nf44_0 : PySem.W.findIn K (.ref C44) "name" = some none)
        (nf44_1 : PySem.W.findIn K (.ref C44) "code" = some none)
        (a45 : PySem.W.nsIn K mainGlobals "NoTable" = some (some (.ref C45)))
        (ei45 : PySem.W.excInitIn K C45 [.type "ValueError", .type "Exception", .type "BaseException", .type "object"] "ValueError.__new__" = true)
        (eo45 : PySem.W.excOver K C45 [.type "ValueError", .type "Exception", .type "BaseException", .type "object"] = true)
        (sa45 : PySem.W.findIn K (.ref C45) "__setattr__" = some (some (.builtin "object.__setattr__")))
        (ex45 : PySem.W.subIn K (.ref C45) (.type "BaseException") = some true)
        (ty45 : PySem.W.typeIn K (.ref C45) = some (.type "type"))
        (kC45 : PySem.W.keepIn K (.ref C45) = true)
        (hd45 : PySem.W.hasDictIn K C45 = true)
        (ga45 : PySem.W.findIn K (.ref C45) "__getattribute__" = some (some (.builtin "BaseException.__getattribute__")))
        (gg45 : PySem.W.findIn K (.ref C45) "__getattr__" = some none)
        (in45 : PySem.W.findIn K (.ref C45) "__init__" = some (some (.ref f45)))
        (ti45 : PySem.W.typeIn K (.ref f45) = some (.type "function"))
        (l45 : K.lookup f45 = some ⟨oc45, od45, .func (PySem.W.fnOf "__init__" "NoTable.__init__" (defArgs s_c_NoTable_init) (defBody s_c_NoTable_init) (defScope s_c_NoTable_init) .none kV45 dc45 pm45 an45 cd45 ct45), sl45⟩) (c45 : PySem.W.codeIn K cd45 "NoTable.__init__" = true) (k45 : PySem.W.keepIn K (.ref f45) = true)
        (nf45_0 : PySem.W.findIn K (.ref C45) "why" = some none)
        (nf45_1 : PySem.W.findIn K (.ref C45) "found" = some none)
        (nf45_2 : PySem.W.findIn K (.ref C45) "code" = some none)
        (a46 : PySem.W.nsIn K mainGlobals "Taken" = some (some (.ref C46)))
        (ei46 : PySem.W.excInitIn K C46 [.type "ValueError", .type "Exception", .type "BaseException", .type "object"] "ValueError.__new__" = true)
        (eo46 : PySem.W.excOver K C46 [.type "ValueError", .type "Exception", .type "BaseException", .type "object"] = true)
        (sa46 : PySem.W.findIn K (.ref C46) "__setattr__" = some (some (.builtin "object.__setattr__")))
        (ex46 : PySem.W.subIn K (.ref C46) (.type "BaseException") = some true)
        (ty46 : PySem.W.typeIn K (.ref C46) = some (.type "type"))
        (kC46 : PySem.W.keepIn K (.ref C46) = true)
        (hd46 : PySem.W.hasDictIn K C46 = true)
        (ga46 : PySem.W.findIn K (.ref C46) "__getattribute__" = some (some (.builtin "BaseException.__getattribute__")))
        (gg46 : PySem.W.findIn K (.ref C46) "__getattr__" = some none)
        (in46 : PySem.W.findIn K (.ref C46) "__init__" = some (some (.ref f46)))
        (ti46 : PySem.W.typeIn K (.ref f46) = some (.type "function"))
        (l46 : K.lookup f46 = some ⟨oc46, od46, .func (PySem.W.fnOf "__init__" "Taken.__init__" (defArgs s_c_Taken_init) (defBody s_c_Taken_init) (defScope s_c_Taken_init) .none kV46 dc46 pm46 an46 cd46 ct46), sl46⟩) (c46 : PySem.W.codeIn K cd46 "Taken.__init__" = true) (k46 : PySem.W.keepIn K (.ref f46) = true)
        (nf46_0 : PySem.W.findIn K (.ref C46) "name" = some none)
        (nf46_1 : PySem.W.findIn K (.ref C46) "code" = some none)
        (a47 : PySem.W.nsIn K mainGlobals "InUse" = some (some (.ref C47)))
        (ei47 : PySem.W.excInitIn K C47 [.type "ValueError", .type "Exception", .type "BaseException", .type "object"] "ValueError.__new__" = true)
        (eo47 : PySem.W.excOver K C47 [.type "ValueError", .type "Exception", .type "BaseException", .type "object"] = true)
        (sa47 : PySem.W.findIn K (.ref C47) "__setattr__" = some (some (.builtin "object.__setattr__")))
        (ex47 : PySem.W.subIn K (.ref C47) (.type "BaseException") = some true)
        (ty47 : PySem.W.typeIn K (.ref C47) = some (.type "type"))
        (kC47 : PySem.W.keepIn K (.ref C47) = true)
        (hd47 : PySem.W.hasDictIn K C47 = true)
        (ga47 : PySem.W.findIn K (.ref C47) "__getattribute__" = some (some (.builtin "BaseException.__getattribute__")))
        (gg47 : PySem.W.findIn K (.ref C47) "__getattr__" = some none)
        (in47 : PySem.W.findIn K (.ref C47) "__init__" = some (some (.ref f47)))
        (ti47 : PySem.W.typeIn K (.ref f47) = some (.type "function"))
        (l47 : K.lookup f47 = some ⟨oc47, od47, .func (PySem.W.fnOf "__init__" "InUse.__init__" (defArgs s_c_InUse_init) (defBody s_c_InUse_init) (defScope s_c_InUse_init) .none kV47 dc47 pm47 an47 cd47 ct47), sl47⟩) (c47 : PySem.W.codeIn K cd47 "InUse.__init__" = true) (k47 : PySem.W.keepIn K (.ref f47) = true)
        (nf47_0 : PySem.W.findIn K (.ref C47) "mark" = some none)
        (nf47_1 : PySem.W.findIn K (.ref C47) "code" = some none)
        (a48 : PySem.W.nsIn K mainGlobals "NoFinds" = some (some (.ref C48)))
        (ei48 : PySem.W.excInitIn K C48 [.type "ValueError", .type "Exception", .type "BaseException", .type "object"] "ValueError.__new__" = true)
        (eo48 : PySem.W.excOver K C48 [.type "ValueError", .type "Exception", .type "BaseException", .type "object"] = true)
        (sa48 : PySem.W.findIn K (.ref C48) "__setattr__" = some (some (.builtin "object.__setattr__")))
        (ex48 : PySem.W.subIn K (.ref C48) (.type "BaseException") = some true)
        (ty48 : PySem.W.typeIn K (.ref C48) = some (.type "type"))
        (kC48 : PySem.W.keepIn K (.ref C48) = true)
        (hd48 : PySem.W.hasDictIn K C48 = true)
        (ga48 : PySem.W.findIn K (.ref C48) "__getattribute__" = some (some (.builtin "BaseException.__getattribute__")))
        (gg48 : PySem.W.findIn K (.ref C48) "__getattr__" = some none)
        (in48 : PySem.W.findIn K (.ref C48) "__init__" = some (some (.ref f48)))
        (ti48 : PySem.W.typeIn K (.ref f48) = some (.type "function"))
        (l48 : K.lookup f48 = some ⟨oc48, od48, .func (PySem.W.fnOf "__init__" "NoFinds.__init__" (defArgs s_c_NoFinds_init) (defBody s_c_NoFinds_init) (defScope s_c_NoFinds_init) .none kV48 dc48 pm48 an48 cd48 ct48), sl48⟩) (c48 : PySem.W.codeIn K cd48 "NoFinds.__init__" = true) (k48 : PySem.W.keepIn K (.ref f48) = true)
        (nf48_0 : PySem.W.findIn K (.ref C48) "code" = some none)
        (a49 : PySem.W.nsIn K mainGlobals "UnknownName" = some (some (.ref C49)))
        (ei49 : PySem.W.excInitIn K C49 [.type "LookupError", .type "Exception", .type "BaseException", .type "object"] "LookupError.__new__" = true)
        (eo49 : PySem.W.excOver K C49 [.type "LookupError", .type "Exception", .type "BaseException", .type "object"] = true)
        (sa49 : PySem.W.findIn K (.ref C49) "__setattr__" = some (some (.builtin "object.__setattr__")))
        (ex49 : PySem.W.subIn K (.ref C49) (.type "BaseException") = some true)
        (ty49 : PySem.W.typeIn K (.ref C49) = some (.type "type"))
        (kC49 : PySem.W.keepIn K (.ref C49) = true)
        (hd49 : PySem.W.hasDictIn K C49 = true)
        (ga49 : PySem.W.findIn K (.ref C49) "__getattribute__" = some (some (.builtin "BaseException.__getattribute__")))
        (gg49 : PySem.W.findIn K (.ref C49) "__getattr__" = some none)
        (in49 : PySem.W.findIn K (.ref C49) "__init__" = some (some (.ref f49)))
        (ti49 : PySem.W.typeIn K (.ref f49) = some (.type "function"))
        (l49 : K.lookup f49 = some ⟨oc49, od49, .func (PySem.W.fnOf "__init__" "UnknownName.__init__" (defArgs s_c_UnknownName_init) (defBody s_c_UnknownName_init) (defScope s_c_UnknownName_init) .none kV49 dc49 pm49 an49 cd49 ct49), sl49⟩) (c49 : PySem.W.codeIn K cd49 "UnknownName.__init__" = true) (k49 : PySem.W.keepIn K (.ref f49) = true)
        (nf49_0 : PySem.W.findIn K (.ref C49) "name" = some none)
        (nf49_1 : PySem.W.findIn K (.ref C49) "code" = some none)
        (a50 : PySem.W.nsIn K mainGlobals "UnknownFind" = some (some (.ref C50)))
        (ei50 : PySem.W.excInitIn K C50 [.type "LookupError", .type "Exception", .type "BaseException", .type "object"] "LookupError.__new__" = true)
        (eo50 : PySem.W.excOver K C50 [.type "LookupError", .type "Exception", .type "BaseException", .type "object"] = true)
        (sa50 : PySem.W.findIn K (.ref C50) "__setattr__" = some (some (.builtin "object.__setattr__")))
        (ex50 : PySem.W.subIn K (.ref C50) (.type "BaseException") = some true)
        (ty50 : PySem.W.typeIn K (.ref C50) = some (.type "type"))
        (kC50 : PySem.W.keepIn K (.ref C50) = true)
        (hd50 : PySem.W.hasDictIn K C50 = true)
        (ga50 : PySem.W.findIn K (.ref C50) "__getattribute__" = some (some (.builtin "BaseException.__getattribute__")))
        (gg50 : PySem.W.findIn K (.ref C50) "__getattr__" = some none)
        (in50 : PySem.W.findIn K (.ref C50) "__init__" = some (some (.ref f50)))
        (ti50 : PySem.W.typeIn K (.ref f50) = some (.type "function"))
        (l50 : K.lookup f50 = some ⟨oc50, od50, .func (PySem.W.fnOf "__init__" "UnknownFind.__init__" (defArgs s_c_UnknownFind_init) (defBody s_c_UnknownFind_init) (defScope s_c_UnknownFind_init) .none kV50 dc50 pm50 an50 cd50 ct50), sl50⟩) (c50 : PySem.W.codeIn K cd50 "UnknownFind.__init__" = true) (k50 : PySem.W.keepIn K (.ref f50) = true)
        (nf50_0 : PySem.W.findIn K (.ref C50) "name" = some none)
        (nf50_1 : PySem.W.findIn K (.ref C50) "code" = some none)
        (a51 : PySem.W.nsIn K mainGlobals "UnknownNode" = some (some (.ref C51)))
        (ei51 : PySem.W.excInitIn K C51 [.type "LookupError", .type "Exception", .type "BaseException", .type "object"] "LookupError.__new__" = true)
        (eo51 : PySem.W.excOver K C51 [.type "LookupError", .type "Exception", .type "BaseException", .type "object"] = true)
        (sa51 : PySem.W.findIn K (.ref C51) "__setattr__" = some (some (.builtin "object.__setattr__")))
        (ex51 : PySem.W.subIn K (.ref C51) (.type "BaseException") = some true)
        (ty51 : PySem.W.typeIn K (.ref C51) = some (.type "type"))
        (kC51 : PySem.W.keepIn K (.ref C51) = true)
        (hd51 : PySem.W.hasDictIn K C51 = true)
        (ga51 : PySem.W.findIn K (.ref C51) "__getattribute__" = some (some (.builtin "BaseException.__getattribute__")))
        (gg51 : PySem.W.findIn K (.ref C51) "__getattr__" = some none)
        (in51 : PySem.W.findIn K (.ref C51) "__init__" = some (some (.ref f51)))
        (ti51 : PySem.W.typeIn K (.ref f51) = some (.type "function"))
        (l51 : K.lookup f51 = some ⟨oc51, od51, .func (PySem.W.fnOf "__init__" "UnknownNode.__init__" (defArgs s_c_UnknownNode_init) (defBody s_c_UnknownNode_init) (defScope s_c_UnknownNode_init) .none kV51 dc51 pm51 an51 cd51 ct51), sl51⟩) (c51 : PySem.W.codeIn K cd51 "UnknownNode.__init__" = true) (k51 : PySem.W.keepIn K (.ref f51) = true)
        (nf51_0 : PySem.W.findIn K (.ref C51) "lot" = some none)
        (nf51_1 : PySem.W.findIn K (.ref C51) "code" = some none)
        (a52 : PySem.W.nsIn K mainGlobals "UnknownKept" = some (some (.ref C52)))
        (ei52 : PySem.W.excInitIn K C52 [.type "LookupError", .type "Exception", .type "BaseException", .type "object"] "LookupError.__new__" = true)
        (eo52 : PySem.W.excOver K C52 [.type "LookupError", .type "Exception", .type "BaseException", .type "object"] = true)
        (sa52 : PySem.W.findIn K (.ref C52) "__setattr__" = some (some (.builtin "object.__setattr__")))
        (ex52 : PySem.W.subIn K (.ref C52) (.type "BaseException") = some true)
        (ty52 : PySem.W.typeIn K (.ref C52) = some (.type "type"))
        (kC52 : PySem.W.keepIn K (.ref C52) = true)
        (hd52 : PySem.W.hasDictIn K C52 = true)
        (ga52 : PySem.W.findIn K (.ref C52) "__getattribute__" = some (some (.builtin "BaseException.__getattribute__")))
        (gg52 : PySem.W.findIn K (.ref C52) "__getattr__" = some none)
        (in52 : PySem.W.findIn K (.ref C52) "__init__" = some (some (.ref f52)))
        (ti52 : PySem.W.typeIn K (.ref f52) = some (.type "function"))
        (l52 : K.lookup f52 = some ⟨oc52, od52, .func (PySem.W.fnOf "__init__" "UnknownKept.__init__" (defArgs s_c_UnknownKept_init) (defBody s_c_UnknownKept_init) (defScope s_c_UnknownKept_init) .none kV52 dc52 pm52 an52 cd52 ct52), sl52⟩) (c52 : PySem.W.codeIn K cd52 "UnknownKept.__init__" = true) (k52 : PySem.W.keepIn K (.ref f52) = true)
        (nf52_0 : PySem.W.findIn K (.ref C52) "at" = some none)
        (nf52_1 : PySem.W.findIn K (.ref C52) "code" = some none)
        (a53 : PySem.W.nsIn K mainGlobals "NothingLeft" = some (some (.ref C53)))
        (ei53 : PySem.W.excInitIn K C53 [.type "IndexError", .type "LookupError", .type "Exception", .type "BaseException", .type "object"] "IndexError.__new__" = true)
        (eo53 : PySem.W.excOver K C53 [.type "IndexError", .type "LookupError", .type "Exception", .type "BaseException", .type "object"] = true)
        (sa53 : PySem.W.findIn K (.ref C53) "__setattr__" = some (some (.builtin "object.__setattr__")))
        (ex53 : PySem.W.subIn K (.ref C53) (.type "BaseException") = some true)
        (ty53 : PySem.W.typeIn K (.ref C53) = some (.type "type"))
        (kC53 : PySem.W.keepIn K (.ref C53) = true)
        (hd53 : PySem.W.hasDictIn K C53 = true)
        (ga53 : PySem.W.findIn K (.ref C53) "__getattribute__" = some (some (.builtin "BaseException.__getattribute__")))
        (gg53 : PySem.W.findIn K (.ref C53) "__getattr__" = some none)
        (in53 : PySem.W.findIn K (.ref C53) "__init__" = some (some (.ref f53)))
        (ti53 : PySem.W.typeIn K (.ref f53) = some (.type "function"))
        (l53 : K.lookup f53 = some ⟨oc53, od53, .func (PySem.W.fnOf "__init__" "NothingLeft.__init__" (defArgs s_c_NothingLeft_init) (defBody s_c_NothingLeft_init) (defScope s_c_NothingLeft_init) .none kV53 dc53 pm53 an53 cd53 ct53), sl53⟩) (c53 : PySem.W.codeIn K cd53 "NothingLeft.__init__" = true) (k53 : PySem.W.keepIn K (.ref f53) = true)
        (nf53_0 : PySem.W.findIn K (.ref C53) "code" = some none)
        (xKit : (([(Str.ofString "InvalidName", C18), (Str.ofString "InvalidLot", C19), (Str.ofString "InvalidFind", C20), (Str.ofString "InvalidWord", C21), (Str.ofString "InvalidFact", C22), (Str.ofString "InvalidOrder", C23), (Str.ofString "InvalidKind", C24), (Str.ofString "InvalidPair", C25), (Str.ofString "InvalidDeed", C26), (Str.ofString "InvalidText", C27), (Str.ofString "InvalidNumber", C28), (Str.ofString "InvalidStatement", C29), (Str.ofString "InvalidQuestion", C30), (Str.ofString "InvalidClaim", C31), (Str.ofString "InvalidTimes", C32), (Str.ofString "InvalidWeights", C33), (Str.ofString "DuplicateName", C34), (Str.ofString "TooMany", C35), (Str.ofString "TooFew", C36), (Str.ofString "CannotStand", C37), (Str.ofString "Standing", C38), (Str.ofString "Clash", C39), (Str.ofString "NotFitting", C40), (Str.ofString "NotShown", C41), (Str.ofString "NotABlock", C42), (Str.ofString "OtherFinds", C43), (Str.ofString "Same", C44), (Str.ofString "NoTable", C45), (Str.ofString "Taken", C46), (Str.ofString "InUse", C47), (Str.ofString "NoFinds", C48), (Str.ofString "UnknownName", C49), (Str.ofString "UnknownFind", C50), (Str.ofString "UnknownNode", C51), (Str.ofString "UnknownKept", C52), (Str.ofString "NothingLeft", C53)] : List (Str × Addr)).all fun p => ([(Str.ofString "InvalidName", C18), (Str.ofString "InvalidLot", C19), (Str.ofString "InvalidFind", C20), (Str.ofString "InvalidWord", C21), (Str.ofString "InvalidFact", C22), (Str.ofString "InvalidOrder", C23), (Str.ofString "InvalidKind", C24), (Str.ofString "InvalidPair", C25), (Str.ofString "InvalidDeed", C26), (Str.ofString "InvalidText", C27), (Str.ofString "InvalidNumber", C28), (Str.ofString "InvalidStatement", C29), (Str.ofString "InvalidQuestion", C30), (Str.ofString "InvalidClaim", C31), (Str.ofString "InvalidTimes", C32), (Str.ofString "InvalidWeights", C33), (Str.ofString "DuplicateName", C34), (Str.ofString "TooMany", C35), (Str.ofString "TooFew", C36), (Str.ofString "CannotStand", C37), (Str.ofString "Standing", C38), (Str.ofString "Clash", C39), (Str.ofString "NotFitting", C40), (Str.ofString "NotShown", C41), (Str.ofString "NotABlock", C42), (Str.ofString "OtherFinds", C43), (Str.ofString "Same", C44), (Str.ofString "NoTable", C45), (Str.ofString "Taken", C46), (Str.ofString "InUse", C47), (Str.ofString "NoFinds", C48), (Str.ofString "UnknownName", C49), (Str.ofString "UnknownFind", C50), (Str.ofString "UnknownNode", C51), (Str.ofString "UnknownKept", C52), (Str.ofString "NothingLeft", C53)] : List (Str × Addr)).all fun q => PySem.W.kitOne K (.ref p.2) (.ref q.2) == some (decide (p.1 = q.1))) = true) (xExc : ([(Str.ofString "InvalidName", C18), (Str.ofString "InvalidLot", C19), (Str.ofString "InvalidFind", C20), (Str.ofString "InvalidWord", C21), (Str.ofString "InvalidFact", C22), (Str.ofString "InvalidOrder", C23), (Str.ofString "InvalidKind", C24), (Str.ofString "InvalidPair", C25), (Str.ofString "InvalidDeed", C26), (Str.ofString "InvalidText", C27), (Str.ofString "InvalidNumber", C28), (Str.ofString "InvalidStatement", C29), (Str.ofString "InvalidQuestion", C30), (Str.ofString "InvalidClaim", C31), (Str.ofString "InvalidTimes", C32), (Str.ofString "InvalidWeights", C33), (Str.ofString "DuplicateName", C34), (Str.ofString "TooMany", C35), (Str.ofString "TooFew", C36), (Str.ofString "CannotStand", C37), (Str.ofString "Standing", C38), (Str.ofString "Clash", C39), (Str.ofString "NotFitting", C40), (Str.ofString "NotShown", C41), (Str.ofString "NotABlock", C42), (Str.ofString "OtherFinds", C43), (Str.ofString "Same", C44), (Str.ofString "NoTable", C45), (Str.ofString "Taken", C46), (Str.ofString "InUse", C47), (Str.ofString "NoFinds", C48), (Str.ofString "UnknownName", C49), (Str.ofString "UnknownFind", C50), (Str.ofString "UnknownNode", C51), (Str.ofString "UnknownKept", C52), (Str.ofString "NothingLeft", C53)] : List (Str × Addr)).all (fun p => excB K p.2) = true)
        (xgFE : (([(Str.ofString "InvalidName", C18), (Str.ofString "InvalidLot", C19), (Str.ofString "InvalidFind", C20), (Str.ofString "InvalidWord", C21), (Str.ofString "InvalidFact", C22), (Str.ofString "InvalidOrder", C23), (Str.ofString "InvalidKind", C24), (Str.ofString "InvalidPair", C25), (Str.ofString "InvalidDeed", C26), (Str.ofString "InvalidText", C27), (Str.ofString "InvalidNumber", C28), (Str.ofString "InvalidStatement", C29), (Str.ofString "InvalidQuestion", C30), (Str.ofString "InvalidClaim", C31), (Str.ofString "InvalidTimes", C32), (Str.ofString "InvalidWeights", C33), (Str.ofString "DuplicateName", C34), (Str.ofString "TooMany", C35), (Str.ofString "TooFew", C36), (Str.ofString "CannotStand", C37), (Str.ofString "Standing", C38), (Str.ofString "Clash", C39), (Str.ofString "NotFitting", C40), (Str.ofString "NotShown", C41), (Str.ofString "NotABlock", C42), (Str.ofString "OtherFinds", C43), (Str.ofString "Same", C44), (Str.ofString "NoTable", C45), (Str.ofString "Taken", C46), (Str.ofString "InUse", C47), (Str.ofString "NoFinds", C48), (Str.ofString "UnknownName", C49), (Str.ofString "UnknownFind", C50), (Str.ofString "UnknownNode", C51), (Str.ofString "UnknownKept", C52), (Str.ofString "NothingLeft", C53)] : List (Str × Addr)).all fun p => PySem.W.kitOne K (.ref p.2) (.ref b1) == some (findB p.1)) = true)
        (xgMI : (([(Str.ofString "InvalidName", C18), (Str.ofString "InvalidLot", C19), (Str.ofString "InvalidFind", C20), (Str.ofString "InvalidWord", C21), (Str.ofString "InvalidFact", C22), (Str.ofString "InvalidOrder", C23), (Str.ofString "InvalidKind", C24), (Str.ofString "InvalidPair", C25), (Str.ofString "InvalidDeed", C26), (Str.ofString "InvalidText", C27), (Str.ofString "InvalidNumber", C28), (Str.ofString "InvalidStatement", C29), (Str.ofString "InvalidQuestion", C30), (Str.ofString "InvalidClaim", C31), (Str.ofString "InvalidTimes", C32), (Str.ofString "InvalidWeights", C33), (Str.ofString "DuplicateName", C34), (Str.ofString "TooMany", C35), (Str.ofString "TooFew", C36), (Str.ofString "CannotStand", C37), (Str.ofString "Standing", C38), (Str.ofString "Clash", C39), (Str.ofString "NotFitting", C40), (Str.ofString "NotShown", C41), (Str.ofString "NotABlock", C42), (Str.ofString "OtherFinds", C43), (Str.ofString "Same", C44), (Str.ofString "NoTable", C45), (Str.ofString "Taken", C46), (Str.ofString "InUse", C47), (Str.ofString "NoFinds", C48), (Str.ofString "UnknownName", C49), (Str.ofString "UnknownFind", C50), (Str.ofString "UnknownNode", C51), (Str.ofString "UnknownKept", C52), (Str.ofString "NothingLeft", C53)] : List (Str × Addr)).all fun p => PySem.W.kitOne K (.ref p.2) (.ref b2) == some (missB p.1)) = true)
        (ygVE : PySem.W.nsIn K mainGlobals "ValueError" = some none) (xgVE : (([(Str.ofString "InvalidName", C18), (Str.ofString "InvalidLot", C19), (Str.ofString "InvalidFind", C20), (Str.ofString "InvalidWord", C21), (Str.ofString "InvalidFact", C22), (Str.ofString "InvalidOrder", C23), (Str.ofString "InvalidKind", C24), (Str.ofString "InvalidPair", C25), (Str.ofString "InvalidDeed", C26), (Str.ofString "InvalidText", C27), (Str.ofString "InvalidNumber", C28), (Str.ofString "InvalidStatement", C29), (Str.ofString "InvalidQuestion", C30), (Str.ofString "InvalidClaim", C31), (Str.ofString "InvalidTimes", C32), (Str.ofString "InvalidWeights", C33), (Str.ofString "DuplicateName", C34), (Str.ofString "TooMany", C35), (Str.ofString "TooFew", C36), (Str.ofString "CannotStand", C37), (Str.ofString "Standing", C38), (Str.ofString "Clash", C39), (Str.ofString "NotFitting", C40), (Str.ofString "NotShown", C41), (Str.ofString "NotABlock", C42), (Str.ofString "OtherFinds", C43), (Str.ofString "Same", C44), (Str.ofString "NoTable", C45), (Str.ofString "Taken", C46), (Str.ofString "InUse", C47), (Str.ofString "NoFinds", C48), (Str.ofString "UnknownName", C49), (Str.ofString "UnknownFind", C50), (Str.ofString "UnknownNode", C51), (Str.ofString "UnknownKept", C52), (Str.ofString "NothingLeft", C53)] : List (Str × Addr)).all fun p => PySem.W.kitOne K (.ref p.2) (.type "ValueError") == some (findB p.1)) = true)
        (ygLE : PySem.W.nsIn K mainGlobals "LookupError" = some none) (xgLE : (([(Str.ofString "InvalidName", C18), (Str.ofString "InvalidLot", C19), (Str.ofString "InvalidFind", C20), (Str.ofString "InvalidWord", C21), (Str.ofString "InvalidFact", C22), (Str.ofString "InvalidOrder", C23), (Str.ofString "InvalidKind", C24), (Str.ofString "InvalidPair", C25), (Str.ofString "InvalidDeed", C26), (Str.ofString "InvalidText", C27), (Str.ofString "InvalidNumber", C28), (Str.ofString "InvalidStatement", C29), (Str.ofString "InvalidQuestion", C30), (Str.ofString "InvalidClaim", C31), (Str.ofString "InvalidTimes", C32), (Str.ofString "InvalidWeights", C33), (Str.ofString "DuplicateName", C34), (Str.ofString "TooMany", C35), (Str.ofString "TooFew", C36), (Str.ofString "CannotStand", C37), (Str.ofString "Standing", C38), (Str.ofString "Clash", C39), (Str.ofString "NotFitting", C40), (Str.ofString "NotShown", C41), (Str.ofString "NotABlock", C42), (Str.ofString "OtherFinds", C43), (Str.ofString "Same", C44), (Str.ofString "NoTable", C45), (Str.ofString "Taken", C46), (Str.ofString "InUse", C47), (Str.ofString "NoFinds", C48), (Str.ofString "UnknownName", C49), (Str.ofString "UnknownFind", C50), (Str.ofString "UnknownNode", C51), (Str.ofString "UnknownKept", C52), (Str.ofString "NothingLeft", C53)] : List (Str × Addr)).all fun p => PySem.W.kitOne K (.ref p.2) (.type "LookupError") == some ((fun n => missB n || lastB n) p.1)) = true)
        (ygIE : PySem.W.nsIn K mainGlobals "IndexError" = some none) (xgIE : (([(Str.ofString "InvalidName", C18), (Str.ofString "InvalidLot", C19), (Str.ofString "InvalidFind", C20), (Str.ofString "InvalidWord", C21), (Str.ofString "InvalidFact", C22), (Str.ofString "InvalidOrder", C23), (Str.ofString "InvalidKind", C24), (Str.ofString "InvalidPair", C25), (Str.ofString "InvalidDeed", C26), (Str.ofString "InvalidText", C27), (Str.ofString "InvalidNumber", C28), (Str.ofString "InvalidStatement", C29), (Str.ofString "InvalidQuestion", C30), (Str.ofString "InvalidClaim", C31), (Str.ofString "InvalidTimes", C32), (Str.ofString "InvalidWeights", C33), (Str.ofString "DuplicateName", C34), (Str.ofString "TooMany", C35), (Str.ofString "TooFew", C36), (Str.ofString "CannotStand", C37), (Str.ofString "Standing", C38), (Str.ofString "Clash", C39), (Str.ofString "NotFitting", C40), (Str.ofString "NotShown", C41), (Str.ofString "NotABlock", C42), (Str.ofString "OtherFinds", C43), (Str.ofString "Same", C44), (Str.ofString "NoTable", C45), (Str.ofString "Taken", C46), (Str.ofString "InUse", C47), (Str.ofString "NoFinds", C48), (Str.ofString "UnknownName", C49), (Str.ofString "UnknownFind", C50), (Str.ofString "UnknownNode", C51), (Str.ofString "UnknownKept", C52), (Str.ofString "NothingLeft", C53)] : List (Str × Addr)).all fun p => PySem.W.kitOne K (.ref p.2) (.type "IndexError") == some (lastB p.1)) = true)
        (ygKE : PySem.W.nsIn K mainGlobals "KeyError" = some none) (xgKE : (([(Str.ofString "InvalidName", C18), (Str.ofString "InvalidLot", C19), (Str.ofString "InvalidFind", C20), (Str.ofString "InvalidWord", C21), (Str.ofString "InvalidFact", C22), (Str.ofString "InvalidOrder", C23), (Str.ofString "InvalidKind", C24), (Str.ofString "InvalidPair", C25), (Str.ofString "InvalidDeed", C26), (Str.ofString "InvalidText", C27), (Str.ofString "InvalidNumber", C28), (Str.ofString "InvalidStatement", C29), (Str.ofString "InvalidQuestion", C30), (Str.ofString "InvalidClaim", C31), (Str.ofString "InvalidTimes", C32), (Str.ofString "InvalidWeights", C33), (Str.ofString "DuplicateName", C34), (Str.ofString "TooMany", C35), (Str.ofString "TooFew", C36), (Str.ofString "CannotStand", C37), (Str.ofString "Standing", C38), (Str.ofString "Clash", C39), (Str.ofString "NotFitting", C40), (Str.ofString "NotShown", C41), (Str.ofString "NotABlock", C42), (Str.ofString "OtherFinds", C43), (Str.ofString "Same", C44), (Str.ofString "NoTable", C45), (Str.ofString "Taken", C46), (Str.ofString "InUse", C47), (Str.ofString "NoFinds", C48), (Str.ofString "UnknownName", C49), (Str.ofString "UnknownFind", C50), (Str.ofString "UnknownNode", C51), (Str.ofString "UnknownKept", C52), (Str.ofString "NothingLeft", C53)] : List (Str × Addr)).all fun p => PySem.W.kitOne K (.ref p.2) (.type "KeyError") == some ((fun _ => false) p.1)) = true)
        (xgRF : PySem.W.exmOne K (.ref C46) (.ref b1) = some true)
        (xgRM2 : PySem.W.exmOne K (.ref C50) (.ref b2) = some true), ∃ fd : FuncData, (∀ (s : Shared) (v : Value), BindsTo s fd ⟨[v], []⟩ [("_law_script", v)]) ∧ ∀ base : Heap, K.In base → base.Ns mainGlobals mg → FnOk l.prog w K mg base CX0 15 fa fd ["_law_script"] (spLawK K) := HM
end Th

namespace Tp
open PySem PySem.W PySem.Calls PyProof.Rows
abbrev rr : OpenRow := OpenLaw.row PySem.Challenge.rw_threeorders_k00_errors_by_themselves
/-- of the top the law alone is seen; all other names are loose -/
abbrev qq : Program := view rr.prog [58]
def lo0 : List PySem.Str := [PySem.Str.ofString "copied", PySem.Str.ofString "FindError", PySem.Str.ofString "InvalidName", PySem.Str.ofString "InvalidLot", PySem.Str.ofString "InvalidFind", PySem.Str.ofString "InvalidWord", PySem.Str.ofString "InvalidFact", PySem.Str.ofString "InvalidOrder", PySem.Str.ofString "InvalidKind", PySem.Str.ofString "InvalidPair", PySem.Str.ofString "InvalidDeed", PySem.Str.ofString "InvalidText", PySem.Str.ofString "InvalidNumber", PySem.Str.ofString "InvalidStatement", PySem.Str.ofString "InvalidQuestion", PySem.Str.ofString "InvalidClaim", PySem.Str.ofString "InvalidTimes", PySem.Str.ofString "InvalidWeights", PySem.Str.ofString "DuplicateName", PySem.Str.ofString "TooMany", PySem.Str.ofString "TooFew", PySem.Str.ofString "CannotStand", PySem.Str.ofString "Standing", PySem.Str.ofString "Clash", PySem.Str.ofString "NotFitting", PySem.Str.ofString "NotShown", PySem.Str.ofString "NotABlock", PySem.Str.ofString "OtherFinds", PySem.Str.ofString "Same", PySem.Str.ofString "NoTable", PySem.Str.ofString "Taken", PySem.Str.ofString "InUse", PySem.Str.ofString "NoFinds", PySem.Str.ofString "Missing", PySem.Str.ofString "UnknownName", PySem.Str.ofString "UnknownFind", PySem.Str.ofString "UnknownNode", PySem.Str.ofString "UnknownKept", PySem.Str.ofString "NothingLeft", PySem.Str.ofString "_law_start"]
def lo1 : List PySem.Str := [PySem.Str.ofString "_law_draw", PySem.Str.ofString "_law_pick", PySem.Str.ofString "_law_letters", PySem.Str.ofString "_law_word", PySem.Str.ofString "_law_odd", PySem.Str.ofString "_law_same", PySem.Str.ofString "_law_codes", PySem.Str.ofString "_law_by_place", PySem.Str.ofString "_law_by_name", PySem.Str.ofString "_law_due", PySem.Str.ofString "_law_told", PySem.Str.ofString "_law_kinds", PySem.Str.ofString "_law_bases", PySem.Str.ofString "_law_all_so", PySem.Str.ofString "_law_raised"]
def lo : List PySem.Str := lo0 ++ lo1
def seesX (s : Shared) : Bool := xlAt qq [] s && recOk (RowW.records rr.toRowW) s
def restB (s : Shared) : Bool := s.heap.accountedOkI (importedModules rr.prog.main.body) && s.heap.isNs mainGlobals && s.heap.isNs builtinsNs && tablesOk qq s.heap && seesX s && (if true then s.gens.size == 0 else !leftWithCleanup s.gens)
def sees (s : Shared) := (seen ((recsOf qq).map (·.name)) (ownsOf qq) [] { s with gens := #[] }, s.heap.bltView, restB s, tabsOk qq s, pinSeenD qq (drecsOf qq) s, plainSeenE qq (looseW qq lo) s, plainSeenD qq lo s, wideSeen qq s, clsSeenW qq lo s)
def good := (expectedOf qq, bltViewBooted, true, true, pinGoodD (drecsOf qq), plainGoodE qq (looseW qq lo), plainGoodD qq lo, wideGood qq, clsGoodW qq lo)
noncomputable def run (w : World) (os : OsState) : Option SharedT := HeadRun.endF (HeadRun.stepQ (HeadRun.denQ HeadRun.tabQ) rr.prog w) 24100 rr.prog w os
/-- what one run of the top must give -/
def Runs (K : Params → Frag) (w : World) : Prop := ∀ os : OsState, (run w os).map (fun s => (HeadRun.looksF rr.prog (boot_heap w.params) s.abs, sees s.abs, ((K w.params).map (·.1)).map (HeadRun.getT s))) = some (true, good, (K w.params).map fun x => some x.2)
def keyP (k : PySem.Str) : Bool := startupNames.contains k || (looseW qq lo).contains k || ((recsOf qq).map (·.name)).contains k || ((litsOf qq).map (·.1)).contains k || ((clssOf qq (looseW qq lo)).map (·.name)).contains k
def keysIn (o : Obj) : List PySem.Str := match o.data with
  | .dict es _ => es.toList.filterMap fun e => match e.key with | .str n _ => some n | _ => none
  | _ => []
/-- no name of the top but these -/
def KeysOk (K : Params → Frag) : Prop := ∀ P : Params, (List.lookup mainGlobals (K P)).map (fun o => (keysIn o).all keyP) = some true
theorem mem_look {o : Obj} {a : Addr} : ∀ {l : List (Addr × Obj)}, List.lookup a l = some o → (a, o) ∈ l
  | [], h => by cases h
  | (b, p) :: r, h => by
    rw [List.lookup_cons] at h
    by_cases e : a = b
    · subst e
      rw [beq_self_eq_true] at h
      cases h
      exact List.mem_cons_self
    · rw [beq_eq_false_iff_ne.mpr e] at h
      exact List.mem_cons_of_mem _ (mem_look h)
theorem full {K : Params → Frag} {w : World} (k : KeysOk K) (r : Runs K w) (os : OsState) :
    (run w os).map (fun s => (HeadRun.looksF rr.prog (boot_heap w.params) s.abs, HeadRun.seenQ qq lo (importedModules rr.prog.main.body) seesX s.abs, ((K w.params).map (·.1)).map (HeadRun.getT s))) = some (true, openGood qq lo, (K w.params).map fun x => some x.2) := by
  have z := r os
  cases e : run w os with
  | none => rw [e] at z; cases z
  | some s =>
    rw [e] at z
    have z := Option.some.inj z
    have z1 := congrArg Prod.fst z
    have z2 := congrArg (fun x => x.2.1) z
    have z3 := congrArg (fun x => x.2.2) z
    have z1 : HeadRun.looksF rr.prog (boot_heap w.params) s.abs = true := z1
    have z2 : sees s.abs = good := z2
    have z3 : ((K w.params).map (·.1)).map (HeadRun.getT s) = (K w.params).map fun x => some x.2 := z3
    have hk := k w.params
    cases ho : List.lookup mainGlobals (K w.params) with
    | none => rw [ho] at hk; cases hk
    | some o =>
      rw [ho] at hk
      have hk : (keysIn o).all keyP = true := Option.some.inj hk
      have hm : s.abs.heap.get? mainGlobals = some o := by
        have z4 := z3
        rw [List.map_map] at z4
        rw [← HeadRun.getT_eq]
        exact List.map_inj_left.mp z4 _ (mem_look ho)
      have hkeys : s.abs.heap.keysOk (looseW qq lo) ((recsOf qq).map (·.name)) ((litsOf qq).map (·.1)) ((clssOf qq (looseW qq lo)).map (·.name)) = true := by
        unfold Heap.keysOk Heap.nsKeys
        rw [hm]
        exact hk
      have sq : HeadRun.seenQ qq lo (importedModules rr.prog.main.body) seesX s.abs = openGood qq lo := by
        rw [← HeadRun.seenQ_eq]
        unfold openSeen openGood
        rw [hkeys, Bool.true_and]
        exact z2
      show some (HeadRun.looksF rr.prog (boot_heap w.params) s.abs, HeadRun.seenQ qq lo (importedModules rr.prog.main.body) seesX s.abs, ((K w.params).map (·.1)).map (HeadRun.getT s)) = _
      rw [z1, sq, z3]
theorem lft {K : Params → Frag} {l : List Addr} {e : ∀ P, l = (K P).map (·.1)} (k : KeysOk K) (f : ∀ w : World, Runs K (w.withFollow "special-get-raises" false)) (t : ∀ w : World, Runs K (w.withFollow "special-get-raises" true)) :
    LeftO rr.prog qq lo seesX (Hook.obs (kHook K l e)) (Hook.val (kHook K l e)) 24800 true :=
  HeadRun.left_oneK (M := 24100) (by kernel_rfl) (by rfl) (fun s => by kernel_rfl) (by rfl) fun w os => by
    rw [e w.params]
    exact full k (byRow2 "special-get-raises" (P := Runs K) f t w) os
theorem tr {K K' : Params → Frag} {b : Bool} (e : K = K') (h : ∀ w : World, Runs K' (w.withFollow "special-get-raises" b)) : ∀ w : World, Runs K (w.withFollow "special-get-raises" b) := by
  rw [e]
  exact h
theorem trK {K K' : Params → Frag} (e : K = K') (h : KeysOk K') : KeysOk K := by
  rw [e]
  exact h
theorem hX (s : Shared) (z : seesX s = true) : XL qq [] (s.heap.nsMap mainGlobals) s.heap := xl_of s (Bool.and_eq_true_iff.mp z).1
theorem hR (s : Shared) (z : seesX s = true) : RecFacts (RowW.records rr.toRowW) s.heap := recFacts_of (Bool.and_eq_true_iff.mp z).2
end Tp
local macro_rules
  | `(tactic| o_head $h:term) => `(tactic| exact False.elim (by assumption))
set_option maxRecDepth 100000 in
set_option maxHeartbeats 0 in
open PySem PySem.W PyProof.Rows in
theorem Tp.getK (_ : False) : PySem.Challenge.rw_threeorders_k00_errors_by_themselves.Holds := by
  w_on; o_law; k_head
set_option maxRecDepth 100000 in
set_option maxHeartbeats 0 in
theorem Tp.keys : Tp.KeysOk Tp.getK.heap_39 := by intro P; kernel_rfl
set_option maxRecDepth 100000 in
set_option maxHeartbeats 0 in
theorem Tp.run0 : ∀ w : PySem.World, Tp.Runs Tp.getK.heap_39 (w.withFollow "special-get-raises" false) := by intro w os; kernel_rfl
set_option maxRecDepth 100000 in
set_option maxHeartbeats 0 in
theorem Tp.run1 : ∀ w : PySem.World, Tp.Runs Tp.getK.heap_39 (w.withFollow "special-get-raises" true) := by intro w os; kernel_rfl
local macro_rules
  | `(tactic| o_head $h:term) => `(tactic| refine PySem.W.holds_open (r := Tp.rr) (q := Tp.qq) (loose := Tp.lo) (XP := PySem.W.XL Tp.qq [])
    (Yf := PySem.W.Hook.obs $h) (Ya := PySem.W.Hook.val $h) (YP := PySem.W.Hook.says $h) (kwd := [])
    (Tp.lft (Tp.trK (by kernel_rfl) Tp.keys) (Tp.tr (by kernel_rfl) Tp.run0) (Tp.tr (by kernel_rfl) Tp.run1))
    (PySem.W.Hook.of $h) (PySem.W.Hook.keeps $h) Tp.hX PySem.W.XL.keeps (by rfl) (by rfl) (by rfl) Tp.hR (by rfl) (by first | assumption | decide +kernel) (by decide +kernel) ⟨rfl, rfl, rfl, rfl, rfl, by decide +kernel⟩ ?_ ?_)
namespace Th
open PySem PySem.Spec PyProof.Rows L2 PySem.W
set_option maxRecDepth 100000 in
set_option maxHeartbeats 0 in
theorem head_first (HM : AllMk) : PySem.Challenge.rw_threeorders_k00_errors_by_themselves.Holds := by
  w_on; o_law; k_head
  · w_witness2
  k_fill
  refine walk (l := PySem.Challenge.rw_threeorders_k00_errors_by_themselves) rfl rfl (fun w h Y => PySem.W.kIn_of Y) ?F
  case F =>
    intro w mg fa h KX G hmg
    refine' Th.AllMk.use HM KX G hmg ?a0 ?l0 ?c0 ?k0 ?a1 ?l1 ?c1 ?k1 ?a2 ?l2 ?c2 ?k2 ?a3 ?l3 ?c3 ?k3 ?a4 ?l4 ?c4 ?k4 ?a5 ?l5 ?c5 ?k5 ?a6 ?l6 ?c6 ?k6 ?a7 ?l7 ?c7 ?k7 ?a8 ?l8 ?c8 ?k8 ?a9 ?l9 ?c9 ?k9 ?a10 ?l10 ?c10 ?k10 ?a11 ?l11 ?c11 ?k11 ?a12 ?l12 ?c12 ?k12 ?a13 ?l13 ?c13 ?k13 ?a14 ?l14 ?c14 ?k14 ?a15 ?l15 ?c15 ?k15 ?a16 ?l16 ?c16 ?k16 ?a17 ?l17 ?c17 ?k17 ?z_len ?z_range ?z_int ?z_abs ?z_isinstance ?z_all ?z_any ?z_sorted ?z_set ?z_list ?z_tuple ?z_str ?z_bool ?z_enumerate ?z_min ?z_max ?ab1 ?ab2 ?a18 ?ei18 ?eo18 ?sa18 ?ex18 ?ty18 ?kC18 ?hd18 ?ga18 ?gg18 ?in18 ?ti18 ?l18 ?c18 ?k18 ?nf18_0 ?nf18_1 ?a19 ?ei19 ?eo19 ?sa19 ?ex19 ?ty19 ?kC19 ?hd19 ?ga19 ?gg19 ?in19 ?ti19 ?l19 ?c19 ?k19 ?nf19_0 ?nf19_1 ?a20 ?ei20 ?eo20 ?sa20 ?ex20 ?ty20 ?kC20 ?hd20 ?ga20 ?gg20 ?in20 ?ti20 ?l20 ?c20 ?k20 ?nf20_0 ?nf20_1 ?a21 ?ei21 ?eo21 ?sa21 ?ex21 ?ty21 ?kC21 ?hd21 ?ga21 ?gg21 ?in21 ?ti21 ?l21 ?c21 ?k21 ?nf21_0 ?nf21_1 ?a22 ?ei22 ?eo22 ?sa22 ?ex22 ?ty22 ?kC22 ?hd22 ?ga22 ?gg22 ?in22 ?ti22 ?l22 ?c22 ?k22 ?nf22_0 ?nf22_1 ?a23 ?ei23 ?eo23 ?sa23 ?ex23 ?ty23 ?kC23 ?hd23 ?ga23 ?gg23 ?in23 ?ti23 ?l23 ?c23 ?k23 ?nf23_0 ?nf23_1 ?a24 ?ei24 ?eo24 ?sa24 ?ex24 ?ty24 ?kC24 ?hd24 ?ga24 ?gg24 ?in24 ?ti24 ?l24 ?c24 ?k24 ?nf24_0 ?nf24_1 ?a25 ?ei25 ?eo25 ?sa25 ?ex25 ?ty25 ?kC25 ?hd25 ?ga25 ?gg25 ?in25 ?ti25 ?l25 ?c25 ?k25 ?nf25_0 ?nf25_1 ?a26 ?ei26 ?eo26 ?sa26 ?ex26 ?ty26 ?kC26 ?hd26 ?ga26 ?gg26 ?in26 ?ti26 ?l26 ?c26 ?k26 ?nf26_0 ?nf26_1 ?a27 ?ei27 ?eo27 ?sa27 ?ex27 ?ty27 ?kC27 ?hd27 ?ga27 ?gg27 ?in27 ?ti27 ?l27 ?c27 ?k27 ?nf27_0 ?nf27_1 ?nf27_2 ?a28 ?ei28 ?eo28 ?sa28 ?ex28 ?ty28 ?kC28 ?hd28 ?ga28 ?gg28 ?in28 ?ti28 ?l28 ?c28 ?k28 ?nf28_0 ?nf28_1 ?a29 ?ei29 ?eo29 ?sa29 ?ex29 ?ty29 ?kC29 ?hd29 ?ga29 ?gg29 ?in29 ?ti29 ?l29 ?c29 ?k29 ?nf29_0 ?a30 ?ei30 ?eo30 ?sa30 ?ex30 ?ty30 ?kC30 ?hd30 ?ga30 ?gg30 ?in30 ?ti30 ?l30 ?c30 ?k30 ?nf30_0 ?a31 ?ei31 ?eo31 ?sa31 ?ex31 ?ty31 ?kC31 ?hd31 ?ga31 ?gg31 ?in31 ?ti31 ?l31 ?c31 ?k31 ?nf31_0 ?a32 ?ei32 ?eo32 ?sa32 ?ex32 ?ty32 ?kC32 ?hd32 ?ga32 ?gg32 ?in32 ?ti32 ?l32 ?c32 ?k32 ?nf32_0 ?nf32_1 ?a33 ?ei33 ?eo33 ?sa33 ?ex33 ?ty33 ?kC33 ?hd33 ?ga33 ?gg33 ?in33 ?ti33 ?l33 ?c33 ?k33 ?nf33_0 ?nf33_1 ?a34 ?ei34 ?eo34 ?sa34 ?ex34 ?ty34 ?kC34 ?hd34 ?ga34 ?gg34 ?in34 ?ti34 ?l34 ?c34 ?k34 ?nf34_0 ?nf34_1 ?a35 ?ei35 ?eo35 ?sa35 ?ex35 ?ty35 ?kC35 ?hd35 ?ga35 ?gg35 ?in35 ?ti35 ?l35 ?c35 ?k35 ?nf35_0 ?nf35_1 ?a36 ?ei36 ?eo36 ?sa36 ?ex36 ?ty36 ?kC36 ?hd36 ?ga36 ?gg36 ?in36 ?ti36 ?l36 ?c36 ?k36 ?nf36_0 ?nf36_1 ?a37 ?ei37 ?eo37 ?sa37 ?ex37 ?ty37 ?kC37 ?hd37 ?ga37 ?gg37 ?in37 ?ti37 ?l37 ?c37 ?k37 ?nf37_0 ?nf37_1 ?nf37_2 ?nf37_3 ?a38 ?ei38 ?eo38 ?sa38 ?ex38 ?ty38 ?kC38 ?hd38 ?ga38 ?gg38 ?in38 ?ti38 ?l38 ?c38 ?k38 ?nf38_0 ?a39 ?ei39 ?eo39 ?sa39 ?ex39 ?ty39 ?kC39 ?hd39 ?ga39 ?gg39 ?in39 ?ti39 ?l39 ?c39 ?k39 ?nf39_0 ?nf39_1 ?a40 ?ei40 ?eo40 ?sa40 ?ex40 ?ty40 ?kC40 ?hd40 ?ga40 ?gg40 ?in40 ?ti40 ?l40 ?c40 ?k40 ?nf40_0 ?a41 ?ei41 ?eo41 ?sa41 ?ex41 ?ty41 ?kC41 ?hd41 ?ga41 ?gg41 ?in41 ?ti41 ?l41 ?c41 ?k41 ?nf41_0 ?a42 ?ei42 ?eo42 ?sa42 ?ex42 ?ty42 ?kC42 ?hd42 ?ga42 ?gg42 ?in42 ?ti42 ?l42 ?c42 ?k42 ?nf42_0 ?nf42_1 ?a43 ?ei43 ?eo43 ?sa43 ?ex43 ?ty43 ?kC43 ?hd43 ?ga43 ?gg43 ?in43 ?ti43 ?l43 ?c43 ?k43 ?nf43_0 ?a44 ?ei44 ?eo44 ?sa44 ?ex44 ?ty44 ?kC44 ?hd44 ?ga44 ?gg44 ?in44 ?ti44 ?l44 ?c44 ?k44 ?nf44_0 ?nf44_1 ?a45 ?ei45 ?eo45 ?sa45 ?ex45 ?ty45 ?kC45 ?hd45 ?ga45 ?gg45 ?in45 ?ti45 ?l45 ?c45 ?k45 ?nf45_0 ?nf45_1 ?nf45_2 ?a46 ?ei46 ?eo46 ?sa46 ?ex46 ?ty46 ?kC46 ?hd46 ?ga46 ?gg46 ?in46 ?ti46 ?l46 ?c46 ?k46 ?nf46_0 ?nf46_1 ?a47 ?ei47 ?eo47 ?sa47 ?ex47 ?ty47 ?kC47 ?hd47 ?ga47 ?gg47 ?in47 ?ti47 ?l47 ?c47 ?k47 ?nf47_0 ?nf47_1 ?a48 ?ei48 ?eo48 ?sa48 ?ex48 ?ty48 ?kC48 ?hd48 ?ga48 ?gg48 ?in48 ?ti48 ?l48 ?c48 ?k48 ?nf48_0 ?a49 ?ei49 ?eo49 ?sa49 ?ex49 ?ty49 ?kC49 ?hd49 ?ga49 ?gg49 ?in49 ?ti49 ?l49 ?c49 ?k49 ?nf49_0 ?nf49_1 ?a50 ?ei50 ?eo50 ?sa50 ?ex50 ?ty50 ?kC50 ?hd50 ?ga50 ?gg50 ?in50 ?ti50 ?l50 ?c50 ?k50 ?nf50_0 ?nf50_1 ?a51 ?ei51 ?eo51 ?sa51 ?ex51 ?ty51 ?kC51 ?hd51 ?ga51 ?gg51 ?in51 ?ti51 ?l51 ?c51 ?k51 ?nf51_0 ?nf51_1 ?a52 ?ei52 ?eo52 ?sa52 ?ex52 ?ty52 ?kC52 ?hd52 ?ga52 ?gg52 ?in52 ?ti52 ?l52 ?c52 ?k52 ?nf52_0 ?nf52_1 ?a53 ?ei53 ?eo53 ?sa53 ?ex53 ?ty53 ?kC53 ?hd53 ?ga53 ?gg53 ?in53 ?ti53 ?l53 ?c53 ?k53 ?nf53_0 ?xKit ?xExc ?xgFE ?xgMI ?ygVE ?xgVE ?ygLE ?xgLE ?ygIE ?xgIE ?ygKE ?xgKE ?xgRF ?xgRM2
    (case a0 => k_is)
    (case l0 => k_is)
    (case c0 => k_is)
    (case k0 => k_is)
    (case a1 => k_is)
    (case l1 => k_is)
    (case c1 => k_is)
    (case k1 => k_is)
    (case a2 => k_is)
    (case l2 => k_is)
    (case c2 => k_is)
    (case k2 => k_is)
    (case a3 => k_is)
    (case l3 => k_is)
    (case c3 => k_is)
    (case k3 => k_is)
    (case a4 => k_is)
    (case l4 => k_is)
    (case c4 => k_is)
    (case k4 => k_is)
    (case a5 => k_is)
    (case l5 => k_is)
    (case c5 => k_is)
    (case k5 => k_is)
    (case a6 => k_is)
    (case l6 => k_is)
    (case c6 => k_is)
    (case k6 => k_is)
    (case a7 => k_is)
    (case l7 => k_is)
    (case c7 => k_is)
    (case k7 => k_is)
    (case a8 => k_is)
    (case l8 => k_is)
    (case c8 => k_is)
    (case k8 => k_is)
    (case a9 => k_is)
    (case l9 => k_is)
    (case c9 => k_is)
    (case k9 => k_is)
    (case a10 => k_is)
    (case l10 => k_is)
    (case c10 => k_is)
    (case k10 => k_is)
    (case a11 => k_is)
    (case l11 => k_is)
    (case c11 => k_is)
    (case k11 => k_is)
    (case a12 => k_is)
    (case l12 => k_is)
    (case c12 => k_is)
    (case k12 => k_is)
    (case a13 => k_is)
    (case l13 => k_is)
    (case c13 => k_is)
    (case k13 => k_is)
    (case a14 => k_is)
    (case l14 => k_is)
    (case c14 => k_is)
    (case k14 => k_is)
    (case a15 => k_is)
    (case l15 => k_is)
    (case c15 => k_is)
    (case k15 => k_is)
    (case a16 => k_is)
    (case l16 => k_is)
    (case c16 => k_is)
    (case k16 => k_is)
    (case a17 => k_is)
    (case l17 => k_is)
    (case c17 => k_is)
    (case k17 => k_is)
    (case z_len => k_is)
    (case z_range => k_is)
    (case z_int => k_is)
    (case z_abs => k_is)
    (case z_isinstance => k_is)
    (case z_all => k_is)
    (case z_any => k_is)
    (case z_sorted => k_is)
    (case z_set => k_is)
    (case z_list => k_is)
    (case z_tuple => k_is)
    (case z_str => k_is)
    (case z_bool => k_is)
    (case z_enumerate => k_is)
    (case z_min => k_is)
    (case z_max => k_is)
    (case ab1 => k_is)
    (case ab2 => k_is)
    (case a18 => k_is)
    (case ei18 => first | kernel_rfl | rfl | decide +kernel)
    (case eo18 => first | kernel_rfl | rfl | decide +kernel)
    (case sa18 => k_is)
    (case ex18 => k_is)
    (case ty18 => k_is)
    (case kC18 => k_is)
    (case hd18 => k_is)
    (case ga18 => k_is)
    (case gg18 => k_is)
    (case in18 => k_is)
    (case ti18 => k_is)
    (case l18 => k_is)
    (case c18 => k_is)
    (case k18 => k_is)
    (case nf18_0 => k_is)
    (case nf18_1 => k_is)
    (case a19 => k_is)
    (case ei19 => first | kernel_rfl | rfl | decide +kernel)
    (case eo19 => first | kernel_rfl | rfl | decide +kernel)
    (case sa19 => k_is)
    (case ex19 => k_is)
    (case ty19 => k_is)
    (case kC19 => k_is)
    (case hd19 => k_is)
    (case ga19 => k_is)
    (case gg19 => k_is)
    (case in19 => k_is)
    (case ti19 => k_is)
    (case l19 => k_is)
    (case c19 => k_is)
    (case k19 => k_is)
    (case nf19_0 => k_is)
    (case nf19_1 => k_is)
    (case a20 => k_is)
    (case ei20 => first | kernel_rfl | rfl | decide +kernel)
    (case eo20 => first | kernel_rfl | rfl | decide +kernel)
    (case sa20 => k_is)
    (case ex20 => k_is)
    (case ty20 => k_is)
    (case kC20 => k_is)
    (case hd20 => k_is)
    (case ga20 => k_is)
    (case gg20 => k_is)
    (case in20 => k_is)
    (case ti20 => k_is)
    (case l20 => k_is)
    (case c20 => k_is)
    (case k20 => k_is)
    (case nf20_0 => k_is)
    (case nf20_1 => k_is)
    (case a21 => k_is)
    (case ei21 => first | kernel_rfl | rfl | decide +kernel)
    (case eo21 => first | kernel_rfl | rfl | decide +kernel)
    (case sa21 => k_is)
    (case ex21 => k_is)
    (case ty21 => k_is)
    (case kC21 => k_is)
    (case hd21 => k_is)
    (case ga21 => k_is)
    (case gg21 => k_is)
    (case in21 => k_is)
    (case ti21 => k_is)
    (case l21 => k_is)
    (case c21 => k_is)
    (case k21 => k_is)
    (case nf21_0 => k_is)
    (case nf21_1 => k_is)
    (case a22 => k_is)
    (case ei22 => first | kernel_rfl | rfl | decide +kernel)
    (case eo22 => first | kernel_rfl | rfl | decide +kernel)
    (case sa22 => k_is)
    (case ex22 => k_is)
    (case ty22 => k_is)
    (case kC22 => k_is)
    (case hd22 => k_is)
    (case ga22 => k_is)
    (case gg22 => k_is)
    (case in22 => k_is)
    (case ti22 => k_is)
    (case l22 => k_is)
    (case c22 => k_is)
    (case k22 => k_is)
    (case nf22_0 => k_is)
    (case nf22_1 => k_is)
    (case a23 => k_is)
    (case ei23 => first | kernel_rfl | rfl | decide +kernel)
    (case eo23 => first | kernel_rfl | rfl | decide +kernel)
    (case sa23 => k_is)
    (case ex23 => k_is)
    (case ty23 => k_is)
    (case kC23 => k_is)
    (case hd23 => k_is)
    (case ga23 => k_is)
    (case gg23 => k_is)
    (case in23 => k_is)
    (case ti23 => k_is)
    (case l23 => k_is)
    (case c23 => k_is)
    (case k23 => k_is)
    (case nf23_0 => k_is)
    (case nf23_1 => k_is)
    (case a24 => k_is)
    (case ei24 => first | kernel_rfl | rfl | decide +kernel)
    (case eo24 => first | kernel_rfl | rfl | decide +kernel)
    (case sa24 => k_is)
    (case ex24 => k_is)
    (case ty24 => k_is)
    (case kC24 => k_is)
    (case hd24 => k_is)
    (case ga24 => k_is)
    (case gg24 => k_is)
    (case in24 => k_is)
    (case ti24 => k_is)
    (case l24 => k_is)
    (case c24 => k_is)
    (case k24 => k_is)
    (case nf24_0 => k_is)
    (case nf24_1 => k_is)
    (case a25 => k_is)
    (case ei25 => first | kernel_rfl | rfl | decide +kernel)
    (case eo25 => first | kernel_rfl | rfl | decide +kernel)
    (case sa25 => k_is)
    (case ex25 => k_is)
    (case ty25 => k_is)
    (case kC25 => k_is)
    (case hd25 => k_is)
    (case ga25 => k_is)
    (case gg25 => k_is)
    (case in25 => k_is)
    (case ti25 => k_is)
    (case l25 => k_is)
    (case c25 => k_is)
    (case k25 => k_is)
    (case nf25_0 => k_is)
    (case nf25_1 => k_is)
    (case a26 => k_is)
    (case ei26 => first | kernel_rfl | rfl | decide +kernel)
    (case eo26 => first | kernel_rfl | rfl | decide +kernel)
    (case sa26 => k_is)
    (case ex26 => k_is)
    (case ty26 => k_is)
    (case kC26 => k_is)
    (case hd26 => k_is)
    (case ga26 => k_is)
    (case gg26 => k_is)
    (case in26 => k_is)
    (case ti26 => k_is)
    (case l26 => k_is)
    (case c26 => k_is)
    (case k26 => k_is)
    (case nf26_0 => k_is)
    (case nf26_1 => k_is)
    (case a27 => k_is)
    (case ei27 => first | kernel_rfl | rfl | decide +kernel)
    (case eo27 => first | kernel_rfl | rfl | decide +kernel)
    (case sa27 => k_is)
    (case ex27 => k_is)
    (case ty27 => k_is)
    (case kC27 => k_is)
    (case hd27 => k_is)
    (case ga27 => k_is)
    (case gg27 => k_is)
    (case in27 => k_is)
    (case ti27 => k_is)
    (case l27 => k_is)
    (case c27 => k_is)
    (case k27 => k_is)
    (case nf27_0 => k_is)
    (case nf27_1 => k_is)
    (case nf27_2 => k_is)
    (case a28 => k_is)
    (case ei28 => first | kernel_rfl | rfl | decide +kernel)
    (case eo28 => first | kernel_rfl | rfl | decide +kernel)
    (case sa28 => k_is)
    (case ex28 => k_is)
    (case ty28 => k_is)
    (case kC28 => k_is)
    (case hd28 => k_is)
    (case ga28 => k_is)
    (case gg28 => k_is)
    (case in28 => k_is)
    (case ti28 => k_is)
    (case l28 => k_is)
    (case c28 => k_is)
    (case k28 => k_is)
    (case nf28_0 => k_is)
    (case nf28_1 => k_is)
    (case a29 => k_is)
    (case ei29 => first | kernel_rfl | rfl | decide +kernel)
    (case eo29 => first | kernel_rfl | rfl | decide +kernel)
    (case sa29 => k_is)
    (case ex29 => k_is)
    (case ty29 => k_is)
    (case kC29 => k_is)
    (case hd29 => k_is)
    (case ga29 => k_is)
    (case gg29 => k_is)
    (case in29 => k_is)
    (case ti29 => k_is)
    (case l29 => k_is)
    (case c29 => k_is)
    (case k29 => k_is)
    (case nf29_0 => k_is)
    (case a30 => k_is)
    (case ei30 => first | kernel_rfl | rfl | decide +kernel)
    (case eo30 => first | kernel_rfl | rfl | decide +kernel)
    (case sa30 => k_is)
    (case ex30 => k_is)
    (case ty30 => k_is)
    (case kC30 => k_is)
    (case hd30 => k_is)
    (case ga30 => k_is)
    (case gg30 => k_is)
    (case in30 => k_is)
    (case ti30 => k_is)
    (case l30 => k_is)
    (case c30 => k_is)
    (case k30 => k_is)
    (case nf30_0 => k_is)
    (case a31 => k_is)
    (case ei31 => first | kernel_rfl | rfl | decide +kernel)
    (case eo31 => first | kernel_rfl | rfl | decide +kernel)
    (case sa31 => k_is)
    (case ex31 => k_is)
    (case ty31 => k_is)
    (case kC31 => k_is)
    (case hd31 => k_is)
    (case ga31 => k_is)
    (case gg31 => k_is)
    (case in31 => k_is)
    (case ti31 => k_is)
    (case l31 => k_is)
    (case c31 => k_is)
    (case k31 => k_is)
    (case nf31_0 => k_is)
    (case a32 => k_is)
    (case ei32 => first | kernel_rfl | rfl | decide +kernel)
    (case eo32 => first | kernel_rfl | rfl | decide +kernel)
    (case sa32 => k_is)
    (case ex32 => k_is)
    (case ty32 => k_is)
    (case kC32 => k_is)
    (case hd32 => k_is)
    (case ga32 => k_is)
    (case gg32 => k_is)
    (case in32 => k_is)
    (case ti32 => k_is)
    (case l32 => k_is)
    (case c32 => k_is)
    (case k32 => k_is)
    (case nf32_0 => k_is)
    (case nf32_1 => k_is)
    (case a33 => k_is)
    (case ei33 => first | kernel_rfl | rfl | decide +kernel)
    (case eo33 => first | kernel_rfl | rfl | decide +kernel)
    (case sa33 => k_is)
    (case ex33 => k_is)
    (case ty33 => k_is)
    (case kC33 => k_is)
    (case hd33 => k_is)
    (case ga33 => k_is)
    (case gg33 => k_is)
    (case in33 => k_is)
    (case ti33 => k_is)
    (case l33 => k_is)
    (case c33 => k_is)
    (case k33 => k_is)
    (case nf33_0 => k_is)
    (case nf33_1 => k_is)
    (case a34 => k_is)
    (case ei34 => first | kernel_rfl | rfl | decide +kernel)
    (case eo34 => first | kernel_rfl | rfl | decide +kernel)
    (case sa34 => k_is)
    (case ex34 => k_is)
    (case ty34 => k_is)
    (case kC34 => k_is)
    (case hd34 => k_is)
    (case ga34 => k_is)
    (case gg34 => k_is)
    (case in34 => k_is)
    (case ti34 => k_is)
    (case l34 => k_is)
    (case c34 => k_is)
    (case k34 => k_is)
    (case nf34_0 => k_is)
    (case nf34_1 => k_is)
    (case a35 => k_is)
    (case ei35 => first | kernel_rfl | rfl | decide +kernel)
    (case eo35 => first | kernel_rfl | rfl | decide +kernel)
    (case sa35 => k_is)
    (case ex35 => k_is)
    (case ty35 => k_is)
    (case kC35 => k_is)
    (case hd35 => k_is)
    (case ga35 => k_is)
    (case gg35 => k_is)
    (case in35 => k_is)
    (case ti35 => k_is)
    (case l35 => k_is)
    (case c35 => k_is)
    (case k35 => k_is)
    (case nf35_0 => k_is)
    (case nf35_1 => k_is)
    (case a36 => k_is)
    (case ei36 => first | kernel_rfl | rfl | decide +kernel)
    (case eo36 => first | kernel_rfl | rfl | decide +kernel)
    (case sa36 => k_is)
    (case ex36 => k_is)
    (case ty36 => k_is)
    (case kC36 => k_is)
    (case hd36 => k_is)
    (case ga36 => k_is)
    (case gg36 => k_is)
    (case in36 => k_is)
    (case ti36 => k_is)
    (case l36 => k_is)
    (case c36 => k_is)
    (case k36 => k_is)
    (case nf36_0 => k_is)
    (case nf36_1 => k_is)
    (case a37 => k_is)
    (case ei37 => first | kernel_rfl | rfl | decide +kernel)
    (case eo37 => first | kernel_rfl | rfl | decide +kernel)
    (case sa37 => k_is)
    (case ex37 => k_is)
    (case ty37 => k_is)
    (case kC37 => k_is)
    (case hd37 => k_is)
    (case ga37 => k_is)
    (case gg37 => k_is)
    (case in37 => k_is)
    (case ti37 => k_is)
    (case l37 => k_is)
    (case c37 => k_is)
    (case k37 => k_is)
    (case nf37_0 => k_is)
    (case nf37_1 => k_is)
    (case nf37_2 => k_is)
    (case nf37_3 => k_is)
    (case a38 => k_is)
    (case ei38 => first | kernel_rfl | rfl | decide +kernel)
    (case eo38 => first | kernel_rfl | rfl | decide +kernel)
    (case sa38 => k_is)
    (case ex38 => k_is)
    (case ty38 => k_is)
    (case kC38 => k_is)
    (case hd38 => k_is)
    (case ga38 => k_is)
    (case gg38 => k_is)
    (case in38 => k_is)
    (case ti38 => k_is)
    (case l38 => k_is)
    (case c38 => k_is)
    (case k38 => k_is)
    (case nf38_0 => k_is)
    (case a39 => k_is)
    (case ei39 => first | kernel_rfl | rfl | decide +kernel)
    (case eo39 => first | kernel_rfl | rfl | decide +kernel)
    (case sa39 => k_is)
    (case ex39 => k_is)
    (case ty39 => k_is)
    (case kC39 => k_is)
    (case hd39 => k_is)
    (case ga39 => k_is)
    (case gg39 => k_is)
    (case in39 => k_is)
    (case ti39 => k_is)
    (case l39 => k_is)
    (case c39 => k_is)
    (case k39 => k_is)
    (case nf39_0 => k_is)
    (case nf39_1 => k_is)
    (case a40 => k_is)
    (case ei40 => first | kernel_rfl | rfl | decide +kernel)
    (case eo40 => first | kernel_rfl | rfl | decide +kernel)
    (case sa40 => k_is)
    (case ex40 => k_is)
    (case ty40 => k_is)
    (case kC40 => k_is)
    (case hd40 => k_is)
    (case ga40 => k_is)
    (case gg40 => k_is)
    (case in40 => k_is)
    (case ti40 => k_is)
    (case l40 => k_is)
    (case c40 => k_is)
    (case k40 => k_is)
    (case nf40_0 => k_is)
    (case a41 => k_is)
    (case ei41 => first | kernel_rfl | rfl | decide +kernel)
    (case eo41 => first | kernel_rfl | rfl | decide +kernel)
    (case sa41 => k_is)
    (case ex41 => k_is)
    (case ty41 => k_is)
    (case kC41 => k_is)
    (case hd41 => k_is)
    (case ga41 => k_is)
    (case gg41 => k_is)
    (case in41 => k_is)
    (case ti41 => k_is)
    (case l41 => k_is)
    (case c41 => k_is)
    (case k41 => k_is)
    (case nf41_0 => k_is)
    (case a42 => k_is)
    (case ei42 => first | kernel_rfl | rfl | decide +kernel)
    (case eo42 => first | kernel_rfl | rfl | decide +kernel)
    (case sa42 => k_is)
    (case ex42 => k_is)
    (case ty42 => k_is)
    (case kC42 => k_is)
    (case hd42 => k_is)
    (case ga42 => k_is)
    (case gg42 => k_is)
    (case in42 => k_is)
    (case ti42 => k_is)
    (case l42 => k_is)
    (case c42 => k_is)
    (case k42 => k_is)
    (case nf42_0 => k_is)
    (case nf42_1 => k_is)
    (case a43 => k_is)
    (case ei43 => first | kernel_rfl | rfl | decide +kernel)
    (case eo43 => first | kernel_rfl | rfl | decide +kernel)
    (case sa43 => k_is)
    (case ex43 => k_is)
    (case ty43 => k_is)
    (case kC43 => k_is)
    (case hd43 => k_is)
    (case ga43 => k_is)
    (case gg43 => k_is)
    (case in43 => k_is)
    (case ti43 => k_is)
    (case l43 => k_is)
    (case c43 => k_is)
    (case k43 => k_is)
    (case nf43_0 => k_is)
    (case a44 => k_is)
    (case ei44 => first | kernel_rfl | rfl | decide +kernel)
    (case eo44 => first | kernel_rfl | rfl | decide +kernel)
    (case sa44 => k_is)
    (case ex44 => k_is)
    (case ty44 => k_is)
    (case kC44 => k_is)
    (case hd44 => k_is)
    (case ga44 => k_is)
    (case gg44 => k_is)
    (case in44 => k_is)
    (case ti44 => k_is)
    (case l44 => k_is)
    (case c44 => k_is)
    (case k44 => k_is)
    (case nf44_0 => k_is)
    (case nf44_1 => k_is)
    (case a45 => k_is)
    (case ei45 => first | kernel_rfl | rfl | decide +kernel)
    (case eo45 => first | kernel_rfl | rfl | decide +kernel)
    (case sa45 => k_is)
    (case ex45 => k_is)
    (case ty45 => k_is)
    (case kC45 => k_is)
    (case hd45 => k_is)
    (case ga45 => k_is)
    (case gg45 => k_is)
    (case in45 => k_is)
    (case ti45 => k_is)
    (case l45 => k_is)
    (case c45 => k_is)
    (case k45 => k_is)
    (case nf45_0 => k_is)
    (case nf45_1 => k_is)
    (case nf45_2 => k_is)
    (case a46 => k_is)
    (case ei46 => first | kernel_rfl | rfl | decide +kernel)
    (case eo46 => first | kernel_rfl | rfl | decide +kernel)
    (case sa46 => k_is)
    (case ex46 => k_is)
    (case ty46 => k_is)
    (case kC46 => k_is)
    (case hd46 => k_is)
    (case ga46 => k_is)
    (case gg46 => k_is)
    (case in46 => k_is)
    (case ti46 => k_is)
    (case l46 => k_is)
    (case c46 => k_is)
    (case k46 => k_is)
    (case nf46_0 => k_is)
    (case nf46_1 => k_is)
    (case a47 => k_is)
    (case ei47 => first | kernel_rfl | rfl | decide +kernel)
    (case eo47 => first | kernel_rfl | rfl | decide +kernel)
    (case sa47 => k_is)
    (case ex47 => k_is)
    (case ty47 => k_is)
    (case kC47 => k_is)
    (case hd47 => k_is)
    (case ga47 => k_is)
    (case gg47 => k_is)
    (case in47 => k_is)
    (case ti47 => k_is)
    (case l47 => k_is)
    (case c47 => k_is)
    (case k47 => k_is)
    (case nf47_0 => k_is)
    (case nf47_1 => k_is)
    (case a48 => k_is)
    (case ei48 => first | kernel_rfl | rfl | decide +kernel)
    (case eo48 => first | kernel_rfl | rfl | decide +kernel)
    (case sa48 => k_is)
    (case ex48 => k_is)
    (case ty48 => k_is)
    (case kC48 => k_is)
    (case hd48 => k_is)
    (case ga48 => k_is)
    (case gg48 => k_is)
    (case in48 => k_is)
    (case ti48 => k_is)
    (case l48 => k_is)
    (case c48 => k_is)
    (case k48 => k_is)
    (case nf48_0 => k_is)
    (case a49 => k_is)
    (case ei49 => first | kernel_rfl | rfl | decide +kernel)
    (case eo49 => first | kernel_rfl | rfl | decide +kernel)
    (case sa49 => k_is)
    (case ex49 => k_is)
    (case ty49 => k_is)
    (case kC49 => k_is)
    (case hd49 => k_is)
    (case ga49 => k_is)
    (case gg49 => k_is)
    (case in49 => k_is)
    (case ti49 => k_is)
    (case l49 => k_is)
    (case c49 => k_is)
    (case k49 => k_is)
    (case nf49_0 => k_is)
    (case nf49_1 => k_is)
    (case a50 => k_is)
    (case ei50 => first | kernel_rfl | rfl | decide +kernel)
    (case eo50 => first | kernel_rfl | rfl | decide +kernel)
    (case sa50 => k_is)
    (case ex50 => k_is)
    (case ty50 => k_is)
    (case kC50 => k_is)
    (case hd50 => k_is)
    (case ga50 => k_is)
    (case gg50 => k_is)
    (case in50 => k_is)
    (case ti50 => k_is)
    (case l50 => k_is)
    (case c50 => k_is)
    (case k50 => k_is)
    (case nf50_0 => k_is)
    (case nf50_1 => k_is)
    (case a51 => k_is)
    (case ei51 => first | kernel_rfl | rfl | decide +kernel)
    (case eo51 => first | kernel_rfl | rfl | decide +kernel)
    (case sa51 => k_is)
    (case ex51 => k_is)
    (case ty51 => k_is)
    (case kC51 => k_is)
    (case hd51 => k_is)
    (case ga51 => k_is)
    (case gg51 => k_is)
    (case in51 => k_is)
    (case ti51 => k_is)
    (case l51 => k_is)
    (case c51 => k_is)
    (case k51 => k_is)
    (case nf51_0 => k_is)
    (case nf51_1 => k_is)
    (case a52 => k_is)
    (case ei52 => first | kernel_rfl | rfl | decide +kernel)
    (case eo52 => first | kernel_rfl | rfl | decide +kernel)
    (case sa52 => k_is)
    (case ex52 => k_is)
    (case ty52 => k_is)
    (case kC52 => k_is)
    (case hd52 => k_is)
    (case ga52 => k_is)
    (case gg52 => k_is)
    (case in52 => k_is)
    (case ti52 => k_is)
    (case l52 => k_is)
    (case c52 => k_is)
    (case k52 => k_is)
    (case nf52_0 => k_is)
    (case nf52_1 => k_is)
    (case a53 => k_is)
    (case ei53 => first | kernel_rfl | rfl | decide +kernel)
    (case eo53 => first | kernel_rfl | rfl | decide +kernel)
    (case sa53 => k_is)
    (case ex53 => k_is)
    (case ty53 => k_is)
    (case kC53 => k_is)
    (case hd53 => k_is)
    (case ga53 => k_is)
    (case gg53 => k_is)
    (case in53 => k_is)
    (case ti53 => k_is)
    (case l53 => k_is)
    (case c53 => k_is)
    (case k53 => k_is)
    (case nf53_0 => k_is)
    (case xKit => exact by kernel_rfl)
    (case xExc => exact by kernel_rfl)
    (case xgFE => exact by kernel_rfl)
    (case xgMI => exact by kernel_rfl)
    (case ygVE => k_is)
    (case xgVE => exact by kernel_rfl)
    (case ygLE => k_is)
    (case xgLE => exact by kernel_rfl)
    (case ygIE => k_is)
    (case xgIE => exact by kernel_rfl)
    (case ygKE => k_is)
    (case xgKE => exact by kernel_rfl)
    (case xgRF => exact by kernel_rfl)
    (case xgRM2 => exact by kernel_rfl)
end Th
namespace Th
open PySem PySem.Spec PyProof.Rows L2

/-! ### heaps: what stands, but for one list -/
def hid (p : Addr) (H : Hp) : Hp := fun a => if a = p then none else H a
theorem hid_ne {p a : Addr} {H : Hp} (h : a ≠ p) : hid p H a = H a := if_neg h
theorem hid_self {p : Addr} {H : Hp} : hid p H p = none := if_pos rfl
theorem hid_some {p a : Addr} {H : Hp} {o : HO} (h : hid p H a = some o) : a ≠ p ∧ H a = some o := by
  by_cases e : a = p
  · subst e
    rw [hid_self] at h
    cases h
  · rw [hid_ne e] at h
    exact ⟨e, h⟩
theorem hid_same {p : Addr} {H : Hp} : Same (hid p H) H := fun a o h => (hid_some h).2
theorem same_new {H : Hp} {p : Addr} {o : HO} (h : H p = none) : Same H (upd H p o) := fun b x e => by
  rw [upd_ne (ne_of_none e h)]
  exact e
theorem same_mut {H H' : Hp} {q : Addr} {o : HO} (e : Same H H') (h : H q = none) : Same H (upd H' q o) := fun a u ha => by
  rw [upd_ne (ne_of_none ha h)]
  exact e a u ha

/-- the list that draws: where it stands, where its script stands, the script -/
structure DS where
  p : Addr
  l : Addr
  ns : List Int
structure Drw (D : DS) (H : Hp) : Prop where
  ne : D.l ≠ D.p
  sc : H D.l = some (.lst (D.ns.map V.int))
  few : D.ns.length ≤ 63
  st : ∃ i v m c : Int, H D.p = some (.lst [.ref D.l, .int i, .int v, .int m, .int c]) ∧ 0 ≤ i ∧ 0 ≤ v ∧ 0 ≤ m ∧ m < 2147483648 ∧ 0 ≤ c
theorem Drw.new {D : DS} {H : Hp} {q : Addr} {o : HO} (d : Drw D H) (h : H q = none) : Drw D (upd H q o) := by
  obtain ⟨ne, sc, few, i, v, m, c, st, r⟩ := d
  exact ⟨ne, by rw [upd_ne (ne_of_none sc h)]; exact sc, few, i, v, m, c, by rw [upd_ne (ne_of_none st h)]; exact st, r⟩
theorem Drw.at {D : DS} {H : Hp} (d : Drw D H) : ∃ o, H D.p = some o := by
  obtain ⟨_, _, _, i, v, m, c, st, _⟩ := d
  exact ⟨_, st⟩
structure Go (D : DS) (H H' : Hp) : Prop where
  sm : Same (hid D.p H) (hid D.p H')
  st : Drw D H'
theorem Go.refl {D : DS} {H : Hp} (d : Drw D H) : Go D H H := ⟨Same.refl _, d⟩
theorem Go.trans {D : DS} {H H1 H2 : Hp} (a : Go D H H1) (b : Go D H1 H2) : Go D H H2 := ⟨a.sm.trans b.sm, b.st⟩
theorem Go.of {D : DS} {H H' : Hp} (d : Drw D H) (s : Same H H') : Go D H H' := by
  refine ⟨fun a o h => ?_, ?_⟩
  · obtain ⟨e, h⟩ := hid_some h
    rw [hid_ne e]
    exact s a o h
  · obtain ⟨ne, sc, few, i, v, m, c, st, r⟩ := d
    exact ⟨ne, s _ _ sc, few, i, v, m, c, s _ _ st, r⟩
theorem Go.new {D : DS} {H H' : Hp} {q : Addr} {o : HO} (g : Go D H H') (h : H' q = none) : Go D H (upd H' q o) := g.trans (.of g.st (same_new h))
/-- a thing that did not stand ahead may change -/
theorem Go.mut {D : DS} {H H' : Hp} {q : Addr} {o : HO} (g : Go D H H') (d : Drw D H) (h : H q = none) : Go D H (upd H' q o) := by
  have np : q ≠ D.p := fun e => by
    obtain ⟨u, hu⟩ := d.at
    rw [← e, h] at hu
    cases hu
  refine ⟨fun a u ha => ?_, ?_⟩
  · obtain ⟨e, ha'⟩ := hid_some ha
    have q1 := g.sm a u ha
    rw [hid_ne e] at q1 ⊢
    rw [upd_ne (ne_of_none ha' h)]
    exact q1
  · obtain ⟨ne, sc, few, i, v, m, c, st, r⟩ := g.st
    exact ⟨ne, by rw [upd_ne (ne_of_none d.sc h)]; exact sc, few, i, v, m, c, by rw [upd_ne np.symm]; exact st, r⟩
theorem Go.free {D : DS} {H H' : Hp} {q : Addr} (g : Go D H H') (d : Drw D H) (h : H' q = none) : H q = none := by
  cases e : H q with
  | none => rfl
  | some o =>
    by_cases z : q = D.p
    · obtain ⟨u, hu⟩ := g.st.at
      rw [← z, h] at hu
      cases hu
    · have q1 := g.sm q o (by rw [hid_ne z]; exact e)
      rw [hid_ne z, h] at q1
      cases q1
theorem Go.old {D : DS} {H H' : Hp} {q : Addr} {o : HO} (g : Go D H H') (z : q ≠ D.p) (h : H q = some o) : H' q = some o := by
  have q1 := g.sm q o (by rw [hid_ne z]; exact h)
  rw [hid_ne z] at q1
  exact q1
theorem Drw.ne_new {D : DS} {H : Hp} {q : Addr} (d : Drw D H) (h : H q = none) : q ≠ D.p := fun e => by
  obtain ⟨u, hu⟩ := d.at
  rw [← e, h] at hu
  cases hu

/-! ### data -/
mutual
inductive Da (K : PySem.W.Frag) (H : Hp) : V → PyData → Prop
  | non : Da K H .non .none
  | bl (b : Bool) : Da K H (.bl b) (.bool b)
  | int (i : Int) : Da K H (.int i) (.int i)
  | str (x : Str) : Da K H (.str x) (.str x)
  | lst {a : Addr} {xs : List V} {ds : List PyData} : SqL K H a xs → TyX K H (.ref a) (.type "list") → DaAll K H xs ds → Da K H (.ref a) (.list ds)
  | tup {a : Addr} {xs : List V} {ds : List PyData} : SqT K H a xs → TyX K H (.ref a) (.type "tuple") → DaAll K H xs ds → Da K H (.ref a) (.tuple ds)
inductive DaAll (K : PySem.W.Frag) (H : Hp) : List V → List PyData → Prop
  | nil : DaAll K H [] []
  | cons {v : V} {vs : List V} {d : PyData} {ds : List PyData} : Da K H v d → DaAll K H vs ds → DaAll K H (v :: vs) (d :: ds)
end
theorem same_rd {H H' : Hp} {a : Addr} {u : HO} (e : Same H H') (h : Rd H a u) : Rd H' a u := by
  rcases h with h | ⟨o, h⟩
  · exact .inl (e a _ h)
  · exact .inr ⟨o, e a _ h⟩
theorem same_t {K : PySem.W.Frag} {H H' : Hp} {a : Addr} {xs : List V} (e : Same H H') (h : SqT K H a xs) : SqT K H' a xs := by
  rcases h with h | h
  · exact .inl (same_rd e h)
  · exact .inr h
theorem ty_same {K : PySem.W.Frag} {H H' : Hp} {v : V} {t : Value} (e : Same H H') (h : TyX K H v t) : TyX K H' v t := by
  cases h with
  | base b =>
    refine .base ?_
    cases b with
    | non => exact .non
    | bl x => exact .bl x
    | int i => exact .int i
    | str x => exact .str x
    | flt x => exact .flt x
    | lst h => exact .lst (e _ _ h)
    | frz h => exact .frz (e _ _ h)
    | tup h => exact .tup (e _ _ h)
    | dK h => exact .dK (e _ _ h)
    | dT h => exact .dT (e _ _ h)
    | ins h cl ha hn htk hm => exact .ins (e _ _ h) cl ha hn htk hm
  | byt b => exact .byt b
  | set h => exact .set (e _ _ h)
  | kList h c => exact .kList h c
  | kTuple h c => exact .kTuple h c
  | kDict h c => exact .kDict h c
  | fTuple h => exact .fTuple (e _ _ h)
  | fDict h => exact .fDict (e _ _ h)
section
variable {K : PySem.W.Frag} {H H' : Hp}
mutual
theorem Da.mono (e : Same H H') : ∀ (d : PyData) (v : V), Da K H v d → Da K H' v d
  | .none, _, h => by
    cases h
    exact .non
  | .bool b, _, h => by
    cases h
    exact .bl b
  | .int i, _, h => by
    cases h
    exact .int i
  | .str x, _, h => by
    cases h
    exact .str x
  | .list ds, _, h => by
    cases h with
    | lst hs ht ha => exact .lst (e.seq hs) (ty_same e ht) (DaAll.mono e ds _ ha)
  | .tuple ds, _, h => by
    cases h with
    | tup hs ht ha => exact .tup (same_t e hs) (ty_same e ht) (DaAll.mono e ds _ ha)
  | .dict _, _, h => by cases h
theorem DaAll.mono (e : Same H H') : ∀ (ds : List PyData) (vs : List V), DaAll K H vs ds → DaAll K H' vs ds
  | [], _, h => by
    cases h
    exact .nil
  | d :: ds, _, h => by
    cases h with
    | cons h1 h2 => exact .cons (Da.mono e d _ h1) (DaAll.mono e ds _ h2)
end
mutual
theorem Da.dp : ∀ (d : PyData) (v : V), Da K H v d → Dp K H v d
  | .none, _, h => by
    cases h
    exact .non
  | .bool b, _, h => by
    cases h
    exact .bl b
  | .int i, _, h => by
    cases h
    exact .int i
  | .str x, _, h => by
    cases h
    exact .str x
  | .list ds, _, h => by
    cases h with
    | lst hs ht ha => exact .lst hs (DaAll.dp ds _ ha)
  | .tuple ds, _, h => by
    cases h with
    | tup hs ht ha => exact .tup hs (DaAll.dp ds _ ha)
  | .dict _, _, h => by cases h
theorem DaAll.dp : ∀ (ds : List PyData) (vs : List V), DaAll K H vs ds → DpAll K H vs ds
  | [], _, h => by
    cases h
    exact .nil
  | d :: ds, _, h => by
    cases h with
    | cons h1 h2 => exact .cons (Da.dp d _ h1) (DaAll.dp ds _ h2)
end
theorem Da.to (h : Da K H v d) (e : Same H H') : Da K H' v d := Da.mono e d v h
theorem DaAll.to (h : DaAll K H vs ds) (e : Same H H') : DaAll K H' vs ds := DaAll.mono e ds vs h
theorem DaAll.len : ∀ {vs : List V} {ds : List PyData}, DaAll K H vs ds → vs.length = ds.length
  | _, _, .nil => rfl
  | _, _, .cons _ r => congrArg Nat.succ r.len
theorem DaAll.at : ∀ {vs : List V} {ds : List PyData} {i : Nat} {v : V}, DaAll K H vs ds → vs[i]? = some v → ∃ d, ds[i]? = some d ∧ Da K H v d
  | _, _, _, _, .nil, h => by simp at h
  | _, _, 0, v, .cons h _, e => ⟨_, rfl, by simp at e; rw [← e]; exact h⟩
  | _, _, i + 1, v, .cons _ r, e => by
    simp only [List.getElem?_cons_succ] at e
    obtain ⟨d, h1, h2⟩ := r.at e
    exact ⟨d, by simpa using h1, h2⟩
theorem DaAll.at' {vs : List V} {ds : List PyData} {i : Nat} {d : PyData} (h : DaAll K H vs ds) (e : ds[i]? = some d) : ∃ v, vs[i]? = some v ∧ Da K H v d := by
  obtain ⟨hi, _⟩ := List.getElem?_eq_some_iff.mp e
  have hv : i < vs.length := by rw [h.len]; exact hi
  obtain ⟨d', e', q⟩ := h.at (List.getElem?_eq_getElem hv)
  rw [e] at e'
  cases e'
  exact ⟨_, List.getElem?_eq_getElem hv, q⟩
theorem DaAll.app : ∀ {vs ws : List V} {ds es : List PyData}, DaAll K H vs ds → DaAll K H ws es → DaAll K H (vs ++ ws) (ds ++ es)
  | _, _, _, _, .nil, r => r
  | _, _, _, _, .cons h t, r => .cons h (t.app r)
theorem DaAll.take : ∀ {vs : List V} {ds : List PyData} (n : Nat), DaAll K H vs ds → DaAll K H (vs.take n) (ds.take n)
  | _, _, 0, _ => .nil
  | _, _, n + 1, .nil => .nil
  | _, _, n + 1, .cons h t => .cons h (t.take n)
theorem DaAll.drop : ∀ {vs : List V} {ds : List PyData} (n : Nat), DaAll K H vs ds → DaAll K H (vs.drop n) (ds.drop n)
  | _, _, 0, h => h
  | _, _, n + 1, .nil => .nil
  | _, _, n + 1, .cons h t => t.drop n
theorem DaAll.strs : ∀ xs : List Str, DaAll K H (xs.map V.str) (xs.map PyData.str)
  | [] => .nil
  | x :: r => .cons (.str x) (DaAll.strs r)
theorem DaAll.bls : ∀ xs : List Bool, DaAll K H (xs.map V.bl) (xs.map PyData.bool)
  | [] => .nil
  | x :: r => .cons (.bl x) (DaAll.bls r)
/-- a value of data that is all texts: the texts -/
theorem DaAll.isStrs : ∀ {vs : List V} {xs : List Str}, DaAll K H vs (xs.map PyData.str) → vs = xs.map V.str
  | _, [], h => by
    cases h
    rfl
  | _, x :: r, h => by
    cases h with
    | cons h1 h2 =>
      cases h1
      rw [h2.isStrs]
      rfl
theorem Da.newT {H : Hp} {q : Addr} {xs : List V} {ds : List PyData} (h : H q = some (.tup xs)) (r : DaAll K H xs ds) : Da K H (.ref q) (.tuple ds) := .tup (.inl (.inl h)) (.base (.tup h)) r
theorem Da.newL {H : Hp} {q : Addr} {xs : List V} {ds : List PyData} (h : H q = some (.lst xs)) (r : DaAll K H xs ds) : Da K H (.ref q) (.list ds) := .lst (.inl (.inl h)) (.base (.lst h)) r
end
/-- the class of a datum -/
def tyD : PyData → String
  | .none => "NoneType" | .bool _ => "bool" | .int _ => "int" | .str _ => "str" | .list _ => "list" | .tuple _ => "tuple" | .dict _ => "dict"
theorem Da.ty {K : PySem.W.Frag} {H : Hp} {v : V} {d : PyData} (h : Da K H v d) : TyX K H v (.type (tyD d)) := by
  cases h with
  | non => exact .base .non
  | bl b => exact .base (.bl b)
  | int i => exact .base (.int i)
  | str x => exact .base (.str x)
  | lst _ t _ => exact t
  | tup _ t _ => exact t
theorem kit_str (d : PyData) (h : tyD d ≠ "dict") : kitB (tyD d) "str" = some (decide (tyD d = "str")) := by
  cases d with
  | none => exact (by decide +kernel : kitB "NoneType" "str" = some (decide ("NoneType" = "str")))
  | bool b => exact (by decide +kernel : kitB "bool" "str" = some (decide ("bool" = "str")))
  | int i => exact (by decide +kernel : kitB "int" "str" = some (decide ("int" = "str")))
  | str x => exact (by decide +kernel : kitB "str" "str" = some (decide ("str" = "str")))
  | list xs => exact (by decide +kernel : kitB "list" "str" = some (decide ("list" = "str")))
  | tuple xs => exact (by decide +kernel : kitB "tuple" "str" = some (decide ("tuple" = "str")))
  | dict kvs => exact absurd rfl h
theorem kit_int (d : PyData) (h : tyD d ≠ "dict") : kitB (tyD d) "int" = some (decide (tyD d = "int" ∨ tyD d = "bool")) := by
  cases d with
  | none => exact (by decide +kernel : kitB "NoneType" "int" = some (decide ("NoneType" = "int" ∨ "NoneType" = "bool")))
  | bool b => exact (by decide +kernel : kitB "bool" "int" = some (decide ("bool" = "int" ∨ "bool" = "bool")))
  | int i => exact (by decide +kernel : kitB "int" "int" = some (decide ("int" = "int" ∨ "int" = "bool")))
  | str x => exact (by decide +kernel : kitB "str" "int" = some (decide ("str" = "int" ∨ "str" = "bool")))
  | list xs => exact (by decide +kernel : kitB "list" "int" = some (decide ("list" = "int" ∨ "list" = "bool")))
  | tuple xs => exact (by decide +kernel : kitB "tuple" "int" = some (decide ("tuple" = "int" ∨ "tuple" = "bool")))
  | dict kvs => exact absurd rfl h
theorem kit_bool (d : PyData) (h : tyD d ≠ "dict") : kitB (tyD d) "bool" = some (decide (tyD d = "bool")) := by
  cases d with
  | none => exact (by decide +kernel : kitB "NoneType" "bool" = some (decide ("NoneType" = "bool")))
  | bool b => exact (by decide +kernel : kitB "bool" "bool" = some (decide ("bool" = "bool")))
  | int i => exact (by decide +kernel : kitB "int" "bool" = some (decide ("int" = "bool")))
  | str x => exact (by decide +kernel : kitB "str" "bool" = some (decide ("str" = "bool")))
  | list xs => exact (by decide +kernel : kitB "list" "bool" = some (decide ("list" = "bool")))
  | tuple xs => exact (by decide +kernel : kitB "tuple" "bool" = some (decide ("tuple" = "bool")))
  | dict kvs => exact absurd rfl h
theorem kit_list (d : PyData) (h : tyD d ≠ "dict") : kitB (tyD d) "list" = some (decide (tyD d = "list")) := by
  cases d with
  | none => exact (by decide +kernel : kitB "NoneType" "list" = some (decide ("NoneType" = "list")))
  | bool b => exact (by decide +kernel : kitB "bool" "list" = some (decide ("bool" = "list")))
  | int i => exact (by decide +kernel : kitB "int" "list" = some (decide ("int" = "list")))
  | str x => exact (by decide +kernel : kitB "str" "list" = some (decide ("str" = "list")))
  | list xs => exact (by decide +kernel : kitB "list" "list" = some (decide ("list" = "list")))
  | tuple xs => exact (by decide +kernel : kitB "tuple" "list" = some (decide ("tuple" = "list")))
  | dict kvs => exact absurd rfl h
theorem kit_tuple (d : PyData) (h : tyD d ≠ "dict") : kitB (tyD d) "tuple" = some (decide (tyD d = "tuple")) := by
  cases d with
  | none => exact (by decide +kernel : kitB "NoneType" "tuple" = some (decide ("NoneType" = "tuple")))
  | bool b => exact (by decide +kernel : kitB "bool" "tuple" = some (decide ("bool" = "tuple")))
  | int i => exact (by decide +kernel : kitB "int" "tuple" = some (decide ("int" = "tuple")))
  | str x => exact (by decide +kernel : kitB "str" "tuple" = some (decide ("str" = "tuple")))
  | list xs => exact (by decide +kernel : kitB "list" "tuple" = some (decide ("list" = "tuple")))
  | tuple xs => exact (by decide +kernel : kitB "tuple" "tuple" = some (decide ("tuple" = "tuple")))
  | dict kvs => exact absurd rfl h
theorem Da.nodict {K : PySem.W.Frag} {H : Hp} {v : V} {d : PyData} (h : Da K H v d) : tyD d ≠ "dict" := by
  cases h with
  | non => exact (by decide : ("NoneType" : String) ≠ "dict")
  | bl b => exact (by decide : ("bool" : String) ≠ "dict")
  | int i => exact (by decide : ("int" : String) ≠ "dict")
  | str x => exact (by decide : ("str" : String) ≠ "dict")
  | lst _ _ _ => exact (by decide : ("list" : String) ≠ "dict")
  | tup _ _ _ => exact (by decide : ("tuple" : String) ≠ "dict")
end Th
namespace Th
open PySem PySem.Spec PyProof.Rows L2
/-! ### a def that stands at a name of the text and keeps a promise -/
/-- the built-in names are still the built-ins -/
structure Zs (mg : Str → Option Value) : Prop where
  len_ : mg "len" = none
  range_ : mg "range" = none
  int_ : mg "int" = none
  abs_ : mg "abs" = none
  isinstance_ : mg "isinstance" = none
  all_ : mg "all" = none
  any_ : mg "any" = none
  sorted_ : mg "sorted" = none
  set_ : mg "set" = none
  list_ : mg "list" = none
  tuple_ : mg "tuple" = none
  str_ : mg "str" = none
  bool_ : mg "bool" = none
  enumerate_ : mg "enumerate" = none
  min_ : mg "min" = none
  max_ : mg "max" = none
def At (K : PySem.W.Frag) (mg : Str → Option Value) (x : Str) (st : Stmt) (ps : List Str) : Prop :=
  ∃ (f : Addr) (fd : FuncData), Fun K x x st f fd ∧ mg x = some (.ref f) ∧ Binds K fd ps []
def Has (P : Program) (w : World) (K : PySem.W.Frag) (mg : Str → Option Value) (base : Heap) (x : Str) (st : Stmt) (k : Nat) (ps : List Str) (sp : Sp) : Prop :=
  ∃ (f : Addr) (fd : FuncData), FnOk P w K mg base CX0 k f fd ps sp ∧ mg x = some (.ref f) ∧ PySem.W.keepIn K (.ref f) = true ∧ Binds K fd ps [] ∧ Fun K x x st f fd
theorem kb_of {K : PySem.W.Frag} {x qual : Str} {st : Stmt} {f : Addr} {fd : FuncData} {ps ks : List Str} {g : List Value → List Value → List Value} {gV : List V → List V → List V} (F : Fun K x qual st f fd)
    (hrel : ∀ {vs : List V} {us : List Value} {zs : List V} {ws : List Value}, Vals vs us → Vals zs ws → Vals (gV vs zs) (g us ws))
    (h : ∀ (kV doc pm : Value) (an : Option Addr) (cdv ct : Value) (us ws : List Value), (g us ws).length = ps.length → bindArgs (PySem.W.fnOf x qual (defArgs st) (defBody st) (defScope st) .none kV doc pm an cdv ct) ⟨us, ks.zip ws⟩ = pure (ps.zip (g us ws))) :
    KBinds K fd ps ks g gV := by
  obtain ⟨oc, od, kV, doc, pm, an, cdv, ct, osl, rfl, lk, hcd⟩ := F.ex
  exact ⟨fun s us ws X hl => .of_eq (h kV doc pm an cdv ct us ws hl), fun r1 r2 => hrel r1 r2⟩
/-- one argument, by its name -/
def g1 {α : Type} : List α → List α → List α
  | [], [a] => [a]
  | _, _ => []
theorem g1_rel {vs : List V} {us : List Value} {zs : List V} {ws : List Value} (r1 : Vals vs us) (r2 : Vals zs ws) : Vals (g1 vs zs) (g1 us ws) := by
  cases r1 with
  | nil =>
    cases r2 with
    | nil => exact .nil
    | cons r r2 =>
      cases r2 with
      | nil => exact .cons r .nil
      | cons _ _ => exact .nil
  | cons _ _ =>
    cases r2 <;> exact .nil
/-- two arguments by their names, in the other order -/
def g2 {α : Type} : List α → List α → List α
  | [], [a, b] => [b, a]
  | _, _ => []
theorem g2_rel {vs : List V} {us : List Value} {zs : List V} {ws : List Value} (r1 : Vals vs us) (r2 : Vals zs ws) : Vals (g2 vs zs) (g2 us ws) := by
  cases r1 with
  | nil =>
    cases r2 with
    | nil => exact .nil
    | cons r r2 =>
      cases r2 with
      | nil => exact .nil
      | cons q r3 =>
        cases r3 with
        | nil => exact .cons q (.cons r .nil)
        | cons _ _ => exact .nil
  | cons _ _ =>
    cases r2 <;> exact .nil

/-! ### small facts of lists -/
theorem cut_none (xs : List V) (h : xs.length ≤ 63) : cutV xs none (some 63) = xs := by
  unfold cutV
  rw [HT.sIx_none, show HT.sIx xs.length xs.length (some 63) = min 63 xs.length from HT.sIx_nat xs.length xs.length 63]
  show List.take (min 63 xs.length - 0) (List.drop 0 xs) = xs
  rw [List.drop_zero, Nat.sub_zero, Nat.min_eq_right h, List.take_length]
theorem getmap {α β : Type} {f : α → β} {l : List α} {i : Nat} {y : β} (h : (l.map f)[i]? = some y) : ∃ x, l[i]? = some x ∧ f x = y := by
  rw [List.getElem?_map] at h
  cases e : l[i]? with
  | none =>
    rw [e] at h
    cases h
  | some x =>
    rw [e] at h
    exact ⟨x, rfl, Option.some.inj h⟩
theorem lt_of_get {α : Type} {l : List α} {i : Nat} {y : α} (h : l[i]? = some y) : i < l.length := (List.getElem?_eq_some_iff.mp h).1
theorem sline {n : Nat} (h : n ≤ 100000) : n ≤ sizeLine := Nat.le_trans h (by decide)
theorem slineL {n : Nat} (h : n < 100000) : n < sizeLine := Nat.lt_of_lt_of_le h (by decide)
theorem take_succ_map {α β : Type} {f : α → β} {l : List α} {i : Nat} {x : α} (h : l[i]? = some x) : ((l.take (i + 1)).map f) = (l.take i).map f ++ [f x] := by
  rw [List.take_add_one, h, List.map_append]
  rfl
theorem atI_of {xs : List V} {i : Int} {v : V} (h0 : 0 ≤ i) (h : xs[i.toNat]? = some v) : atI xs i = some v := by
  have e : i = ((i.toNat : Nat) : Int) := by omega
  rw [e]
  exact atI_nat h
end Th
namespace Th
def sgE (a b k : Nat) : Nat := (a + b * k % 26) % 26 + 26 * (k / 26)
theorem sgE_nodup : ∀ a, a < 26 → ∀ b ∈ [1, 3, 5, 7, 9, 11, 25], ((List.range 40).map (sgE a b)).Nodup := by decide +kernel
end Th
/-! texts and names -/
namespace Th
open PySem PySem.Spec PyProof.Rows L2
theorem nodup_at {α : Type} {l : List α} (h : l.Nodup) {i j : Nat} {x : α} (hi : l[i]? = some x) (hj : l[j]? = some x) : i = j := by
  obtain ⟨li, ei⟩ := List.getElem?_eq_some_iff.mp hi
  obtain ⟨lj, ej⟩ := List.getElem?_eq_some_iff.mp hj
  have q := List.pairwise_iff_getElem.mp h
  rcases Nat.lt_trichotomy i j with z | z | z
  · exact absurd (ei.trans ej.symm) (q i j li lj z)
  · exact z
  · exact absurd (ej.trans ei.symm) (q j i lj li z)
theorem nodup_sub {α : Type} [DecidableEq α] : ∀ {l m : List α}, l.Nodup → (∀ x ∈ l, x ∈ m) → l.length ≤ m.length
  | [], _, _, _ => Nat.zero_le _
  | x :: r, m, h, k => by
    obtain ⟨h1, h2⟩ := List.nodup_cons.mp h
    have hx := k x List.mem_cons_self
    have q : r.length ≤ (m.erase x).length := nodup_sub h2 fun y hy => by
      have ne : y ≠ x := fun e => h1 (e ▸ hy)
      exact (List.mem_erase_of_ne ne).mpr (k y (List.mem_cons_of_mem _ hy))
    rw [List.length_erase_of_mem hx] at q
    have p := List.length_pos_of_mem hx
    rw [List.length_cons]
    omega
def cs (x : Str) : List Nat := x.cps.toList
theorem cs_len (x : Str) : x.length = (cs x).length := (Array.length_toList).symm
theorem cs_inj {x y : Str} (h : cs x = cs y) : x = y := by
  cases x
  cases y
  exact congrArg Str.mk (Array.toList_inj.mp h)
theorem cs_app (x y : Str) : cs (x ++ y) = cs x ++ cs y := by
  show (x.cps ++ y.cps).toList = _
  rw [Array.toList_append]
  rfl
theorem cs_mk (l : List Nat) : cs ⟨l.toArray⟩ = l := rfl
theorem cs_join : ∀ ys : List Str, cs (Str.join Str.empty ys) = (ys.map cs).flatten
  | [] => rfl
  | [x] => by simp [Str.join]
  | x :: y :: r => by
    show cs (x ++ Str.empty ++ Str.join Str.empty (y :: r)) = _
    rw [cs_app, cs_app, cs_join (y :: r)]
    show cs x ++ [] ++ _ = _
    rw [List.append_nil]
    rfl
/-- the small letters -/
def abc : Str := "abcdefghijklmnopqrstuvwxyz"
theorem abc_len : (cs abc).length = 26 := by decide +kernel
theorem abc_nodup : (cs abc).Nodup := by decide +kernel
theorem abc_length : abc.length = 26 := by decide +kernel
/-- all signs are small letters -/
def Lw (x : Str) : Prop := ∀ c ∈ cs x, c ∈ cs abc
theorem Lw.app {x y : Str} (h : Lw x) (k : Lw y) : Lw (x ++ y) := fun c hc => by
  rw [cs_app] at hc
  rcases List.mem_append.mp hc with z | z
  · exact h c z
  · exact k c z
theorem Lw.sub {x y : Str} (h : Lw x) (k : ∀ c ∈ cs y, c ∈ cs x) : Lw y := fun c hc => h c (k c hc)
/-- a name -/
def isNm (x : Str) : Bool := decide (1 ≤ x.length) && decide (x.length ≤ 6) && (cs x).all fun c => decide (c ∈ cs abc)
theorem isNm_iff {x : Str} : isNm x = true ↔ 1 ≤ x.length ∧ x.length ≤ 6 ∧ Lw x := by
  unfold isNm
  rw [Bool.and_eq_true, Bool.and_eq_true, decide_eq_true_eq, decide_eq_true_eq, List.all_eq_true]
  constructor
  · rintro ⟨⟨a, b⟩, c⟩
    exact ⟨a, b, fun z hz => of_decide_eq_true (c z hz)⟩
  · rintro ⟨a, b, c⟩
    exact ⟨⟨a, b⟩, fun z hz => decide_eq_true (c z hz)⟩
theorem isNm_len {x : Str} (h : isNm x = true) : x.length ≤ 6 := (isNm_iff.mp h).2.1
/-- the k-th letter -/
def let_ (k : Nat) : Nat := (cs abc).getD k 0
theorem let_at {k : Nat} (h : k < 26) : (cs abc)[k]? = some (let_ k) := by
  have h' : k < (cs abc).length := by rw [abc_len]; exact h
  unfold let_
  rw [List.getD_eq_getElem?_getD, List.getElem?_eq_getElem h']
  rfl
theorem let_mem {k : Nat} (h : k < 26) : let_ k ∈ cs abc := List.mem_of_getElem? (let_at h)
theorem let_inj {i j : Nat} (hi : i < 26) (hj : j < 26) (h : let_ i = let_ j) : i = j := by
  have a := let_at hi
  have b := let_at hj
  rw [h] at a
  exact nodup_at abc_nodup a b
theorem atI_of' {xs : List Nat} {i : Int} {v : Nat} (h0 : 0 ≤ i) (h : xs[i.toNat]? = some v) : atI xs i = some v := by
  have e : i = ((i.toNat : Nat) : Int) := by omega
  rw [e]
  exact atI_nat h
theorem atI_let {k : Int} (h0 : 0 ≤ k) (h1 : k < 26) : atI abc.cps.toList k = some (let_ k.toNat) := atI_of' (xs := (cs abc)) h0 (let_at (by omega))
theorem sline_abc : abc.length ≤ sizeLine := by rw [abc_length]; decide
theorem sqh {K : PySem.W.Frag} {p q : Addr} {H : Hp} {xs : List V} (z : q ≠ p) (h : H q = some (.lst xs)) : SqL K (hid p H) q xs := .inl (.inl (by rw [hid_ne z]; exact h))
theorem sqhT {K : PySem.W.Frag} {p q : Addr} {H : Hp} {xs : List V} (z : q ≠ p) (h : H q = some (.tup xs)) : SqT K (hid p H) q xs := .inl (.inl (by rw [hid_ne z]; exact h))
theorem flatS (xs : List Str) : (xs.map V.str).all flatV = true := by
  rw [List.all_map, List.all_eq_true]
  exact fun _ _ => rfl
theorem inS (x : Str) (xs : List Str) : inV (.str x) (xs.map V.str) = decide (x ∈ xs) := by
  unfold inV
  rw [List.any_map, Bool.eq_iff_iff, List.any_eq_true, decide_eq_true_eq]
  constructor
  · rintro ⟨y, hy, e⟩
    have e' : y = x := beq_iff_eq.mp (show (y == x) = true from e)
    rw [← e']
    exact hy
  · intro hx
    exact ⟨x, hx, beq_self_eq_true x⟩
/-- len of a list or a tuple, by values -/
def rLn (K : PySem.W.Frag) : List V → Hp → VK → Prop := fun xs H Q => ∃ p ys, xs = [.ref p] ∧ (SqL K H p ys ∨ SqT K H p ys) ∧ Q (.int ys.length) H
theorem len_seqK {X : Cx} : CallR X (.builtin "len") (rLn X.K) := call_len_seq
theorem ixe (a b i : Nat) : ((a : Int) + ((b : Int) * ((0 : Int) + (i : Int))) % 26) % 26 = (((a + b * i % 26) % 26 : Nat) : Int) := by
  have e : (b : Int) * ((0 : Int) + (i : Int)) = ((b * i : Nat) : Int) := by rw [Int.zero_add, Int.natCast_mul]
  rw [e]
  omega
theorem stride_of {i : Nat} {v : V} (h : [V.int 1, .int 3, .int 5, .int 7, .int 9, .int 11, .int 25][i]? = some v) : ∃ b : Nat, b ∈ [1, 3, 5, 7, 9, 11, 25] ∧ b ≤ 25 ∧ v = .int (b : Int) := by
  have m := List.mem_of_getElem? h
  simp only [List.mem_cons, List.not_mem_nil, or_false] at m
  rcases m with e | e | e | e | e | e | e
  · exact ⟨1, by decide, by decide, e⟩
  · exact ⟨3, by decide, by decide, e⟩
  · exact ⟨5, by decide, by decide, e⟩
  · exact ⟨7, by decide, by decide, e⟩
  · exact ⟨9, by decide, by decide, e⟩
  · exact ⟨11, by decide, by decide, e⟩
  · exact ⟨25, by decide, by decide, e⟩
/-- the first letters of the signs -/
def sg1 (a b k : Nat) : Str := ⟨#[let_ ((a + b * k % 26) % 26)]⟩
theorem mapr {α : Type} (f : Nat → α) (n : Nat) : (List.range (n + 1)).map f = (List.range n).map f ++ [f n] := by
  rw [List.range_succ, List.map_append]
  rfl
theorem getr {α : Type} (f : Nat → α) {n k : Nat} (h : k < n) : ((List.range n).map f)[k]? = some (f k) := by
  rw [List.getElem?_map, List.getElem?_range h]
  rfl
def strV (v : V) : Str := match v with | .str x => x | _ => Str.empty
theorem perm_strs {ys : List V} {xs : List Str} (h : ys.Perm (xs.map V.str)) : ∃ zs : List Str, ys = zs.map V.str ∧ zs.Perm xs := by
  refine ⟨ys.map strV, ?_, ?_⟩
  · rw [List.map_map]
    refine (List.map_id ys).symm.trans (List.map_congr_left fun v hv => ?_)
    obtain ⟨x, _, rfl⟩ := List.mem_map.mp (h.mem_iff.mp hv)
    rfl
  · have q := h.map strV
    rw [List.map_map] at q
    have e : xs.map (strV ∘ V.str) = xs := (List.map_congr_left fun _ _ => rfl).trans (List.map_id xs)
    rw [e] at q
    exact q
theorem cut_to {n : Int} (xs : List V) (h : 0 ≤ n) : cutV xs none (some n) = xs.take n.toNat := by
  have e : n = ((n.toNat : Nat) : Int) := by omega
  unfold cutV
  rw [HT.sIx_none, e, HT.sIx_nat, List.drop_zero, Nat.sub_zero, Int.toNat_natCast, Nat.min_def]
  split
  · rfl
  · rw [List.take_length, List.take_of_length_le (by omega)]
/-! slices of texts -/
theorem cs_cut (z : Str) (lo hi : Option Int) : cs (cutS z lo hi) = ((cs z).drop (HT.sIx z.length 0 lo)).take (HT.sIx z.length z.length hi - HT.sIx z.length 0 lo) := rfl
theorem cs_cut_to (z : Str) (n : Int) (h : 0 ≤ n) : cs (cutS z none (some n)) = (cs z).take n.toNat := by
  have e : n = ((n.toNat : Nat) : Int) := by omega
  rw [cs_cut, HT.sIx_none, e, HT.sIx_nat, List.drop_zero, Nat.sub_zero, Int.toNat_natCast, Nat.min_def]
  split
  · rfl
  · rename_i hn
    rw [cs_len, List.take_length, List.take_of_length_le (by rw [← cs_len]; omega)]
theorem cs_cut_from (z : Str) (n : Int) (h : 0 ≤ n) (h2 : n ≤ z.length) : cs (cutS z (some n) none) = (cs z).drop n.toNat := by
  have e : n = ((n.toNat : Nat) : Int) := by omega
  rw [cs_cut, HT.sIx_none, e, HT.sIx_nat, Int.toNat_natCast, Nat.min_eq_left (by omega)]
  rw [cs_len, ← List.length_drop, List.take_length]
/-! the signs of names: the letter at (first + stride * k % 26) % 26, and a second one from 26 on -/
def sgn (a b : Nat) (k : Nat) : Str := ⟨#[let_ ((a + b * k % 26) % 26)]⟩ ++ (if k < 26 then Str.empty else ⟨#[let_ (k / 26)]⟩)
theorem sgn_cs (a b k : Nat) : cs (sgn a b k) = let_ ((a + b * k % 26) % 26) :: (if k < 26 then [] else [let_ (k / 26)]) := by
  unfold sgn
  rw [cs_app]
  split <;> rfl
theorem sgn_len (a b k : Nat) : (sgn a b k).length = if k < 26 then 1 else 2 := by
  rw [cs_len, sgn_cs]
  split <;> rfl
theorem sgn_lw (a b : Nat) {k : Nat} (h : k < 40) : Lw (sgn a b k) := by
  intro c hc
  rw [sgn_cs] at hc
  rcases List.mem_cons.mp hc with z | z
  · rw [z]
    exact let_mem (Nat.mod_lt _ (by decide))
  · split at z
    · cases z
    · rw [List.mem_singleton.mp z]
      exact let_mem (by omega)
theorem sgn_inj {a b i j : Nat} (ha : a < 26) (hb : b ∈ [1, 3, 5, 7, 9, 11, 25]) (hi : i < 40) (hj : j < 40) (h : sgn a b i = sgn a b j) : i = j := by
  have e : sgE a b i = sgE a b j := by
    have q := congrArg cs h
    rw [sgn_cs, sgn_cs] at q
    injection q with q1 q2
    have q3 := let_inj (Nat.mod_lt _ (by decide)) (Nat.mod_lt _ (by decide)) q1
    unfold sgE
    rw [q3]
    have q4 : i / 26 = j / 26 := by
      by_cases h1 : i < 26
      · by_cases h2 : j < 26
        · omega
        · rw [if_pos h1, if_neg h2] at q2
          cases q2
      · by_cases h2 : j < 26
        · rw [if_neg h1, if_pos h2] at q2
          cases q2
        · rw [if_neg h1, if_neg h2] at q2
          injection q2 with q5
          exact let_inj (by omega) (by omega) q5
    rw [q4]
  have nd := sgE_nodup a ha b hb
  have g1 : ((List.range 40).map (sgE a b))[i]? = some (sgE a b i) := by
    rw [List.getElem?_map, List.getElem?_range hi]
    rfl
  have g2 : ((List.range 40).map (sgE a b))[j]? = some (sgE a b j) := by
    rw [List.getElem?_map, List.getElem?_range hj]
    rfl
  rw [e] at g1
  exact nodup_at nd g1 g2
def sgns (a b n : Nat) : List Str := (List.range n).map (sgn a b)
theorem sgns_nodup {a b n : Nat} (ha : a < 26) (hb : b ∈ [1, 3, 5, 7, 9, 11, 25]) (hn : n ≤ 40) : (sgns a b n).Nodup := by
  unfold sgns
  rw [List.Nodup, List.pairwise_map]
  refine List.Pairwise.imp_of_mem ?_ List.nodup_range
  intro i j hi hj hne e
  exact hne (sgn_inj ha hb (by have := List.mem_range.mp hi; omega) (by have := List.mem_range.mp hj; omega) e)
theorem sgns_len (a b n : Nat) : (sgns a b n).length = n := by
  unfold sgns
  rw [List.length_map, List.length_range]
theorem sgns_mem {a b n : Nat} {x : Str} (hn : n ≤ 40) (h : x ∈ sgns a b n) : 1 ≤ x.length ∧ x.length ≤ 2 ∧ Lw x := by
  obtain ⟨k, hk, rfl⟩ := List.mem_map.mp h
  have hk' : k < n := List.mem_range.mp hk
  rw [sgn_len]
  refine ⟨?_, ?_, sgn_lw a b (by omega)⟩
  · split <;> omega
  · split <;> omega
/-- the words that stand in texts too -/
def kno : List Str := ["find", "finds", "word", "fact", "before", "first", "last", "lot", "never", "all", "rest", "self"]
theorem kno_nodup : kno.Nodup := by decide +kernel
theorem kno_ok : ∀ x ∈ kno, isNm x = true ∧ 3 ≤ x.length := by decide +kernel
theorem kno_len : kno.length = 12 := rfl
/-- names: each once -/
def Nms (xs : List Str) : Prop := xs.Nodup ∧ ∀ x ∈ xs, isNm x = true
theorem nms_known {ys : List Str} {a b n : Nat} (ha : a < 26) (hb : b ∈ [1, 3, 5, 7, 9, 11, 25]) (hn : n ≤ 40) (h : ys.Perm kno) (m : Nat) : Nms ((ys ++ sgns a b n).take m) := by
  have nd : (ys ++ sgns a b n).Nodup := by
    rw [List.nodup_append]
    refine ⟨h.nodup_iff.mpr kno_nodup, sgns_nodup ha hb hn, fun x hx y hy e => ?_⟩
    have q1 := (kno_ok x (h.mem_iff.mp hx)).2
    have q2 := (sgns_mem hn hy).2.1
    rw [e] at q1
    omega
  refine ⟨nd.sublist (List.take_sublist _ _), fun x hx => ?_⟩
  rcases List.mem_append.mp (List.mem_of_mem_take hx) with z | z
  · exact (kno_ok x (h.mem_iff.mp z)).1
  · obtain ⟨q1, q2, q3⟩ := sgns_mem hn z
    exact isNm_iff.mpr ⟨q1, by omega, q3⟩
/-- names by a stem around a sign -/
def stm (w : Str) (i : Nat) (s : Str) : Str := ⟨((cs w).take i).toArray⟩ ++ s ++ ⟨((cs w).drop i).toArray⟩
theorem stm_cs (w : Str) (i : Nat) (s : Str) : cs (stm w i s) = (cs w).take i ++ cs s ++ (cs w).drop i := by
  unfold stm
  rw [cs_app, cs_app]
  rfl
theorem stm_eq {w s : Str} {i : Int} (h0 : 0 ≤ i) (h1 : i ≤ w.length) : cutS w none (some i) ++ s ++ cutS w (some i) none = stm w i.toNat s := by
  refine cs_inj ?_
  rw [cs_app, cs_app, cs_cut_to _ _ h0, cs_cut_from _ _ h0 h1, stm_cs]
theorem nms_stem {w : Str} {i a b n : Nat} (hw : Lw w) (hl : w.length ≤ 4) (ha : a < 26) (hb : b ∈ [1, 3, 5, 7, 9, 11, 25]) (hn : n ≤ 40) : Nms ((sgns a b n).map (stm w i)) := by
  refine ⟨?_, fun x hx => ?_⟩
  · rw [List.Nodup, List.pairwise_map]
    refine List.Pairwise.imp ?_ (sgns_nodup ha hb hn)
    intro x y hne e
    have q := congrArg cs e
    rw [stm_cs, stm_cs] at q
    exact hne (cs_inj (List.append_cancel_left (List.append_cancel_right q)))
  · obtain ⟨s, hs, rfl⟩ := List.mem_map.mp hx
    obtain ⟨q1, q2, q3⟩ := sgns_mem hn hs
    rw [cs_len] at q1 q2 hl
    refine isNm_iff.mpr ⟨?_, ?_, fun c hc => ?_⟩
    · rw [cs_len, stm_cs, List.length_append, List.length_append]; omega
    · rw [cs_len, stm_cs, List.length_append, List.length_append, List.length_take, List.length_drop]; omega
    · rw [stm_cs] at hc
      rcases List.mem_append.mp hc with z | z
      · rcases List.mem_append.mp z with z | z
        · exact hw c (List.mem_of_mem_take z)
        · exact q3 c z
      · exact hw c (List.mem_of_mem_drop z)
theorem nm_word {x : Str} (h : Lw x) (h1 : 1 ≤ x.length) (h2 : (x.length : Int) ≤ 6) : isNm x = true := isNm_iff.mpr ⟨h1, by omega, h⟩
theorem nm_long {x y : Str} (h : isNm x = true) (k : Lw y) : isNm (cutS (x ++ y) none (some 6)) = true := by
  obtain ⟨h1, h2, h3⟩ := isNm_iff.mp h
  have e : cs (cutS (x ++ y) none (some 6)) = (cs (x ++ y)).take 6 := cs_cut_to _ 6 (by decide)
  rw [cs_len] at h1
  refine isNm_iff.mpr ⟨?_, ?_, fun c hc => ?_⟩
  · rw [cs_len, e, List.length_take, cs_app, List.length_append]
    omega
  · rw [cs_len, e, List.length_take]
    omega
  · rw [e] at hc
    exact h3.app k c (List.mem_of_mem_take hc)
/-- one name more -/
theorem Nms.snoc {xs : List Str} {x : Str} (h : Nms xs) (hx : isNm x = true) (n : x ∉ xs) : Nms (xs ++ [x]) := by
  refine ⟨?_, fun y hy => ?_⟩
  · rw [List.nodup_append]
    exact ⟨h.1, List.pairwise_singleton _ _, fun a ha b hb e => n (by rw [← List.mem_singleton.mp hb, ← e]; exact ha)⟩
  · rcases List.mem_append.mp hy with z | z
    · exact h.2 y z
    · rw [List.mem_singleton.mp z]
      exact hx
/-- a sign is left while there are fewer names than signs -/
theorem spare_left {xs ss : List Str} (h : ss.Nodup) (hl : xs.length < ss.length) : ∃ s r, ss.filter (fun s => !decide (s ∈ xs)) = s :: r := by
  cases e : ss.filter (fun s => !decide (s ∈ xs)) with
  | cons s r => exact ⟨s, r, rfl⟩
  | nil =>
    exfalso
    have all : ∀ s ∈ ss, s ∈ xs := fun s hs => by
      have q := List.filter_eq_nil_iff.mp e s hs
      simpa using q
    have sub := nodup_sub h all
    omega
end Th
/-! data that is written in the text, and data judged -/
namespace Th
open PySem PySem.Spec PyProof.Rows L2
def Lit (K : PySem.W.Frag) (t : TE) (d : PyData) : Prop := ∀ (D : DS) (σ : L2.St) (H : Hp) (Q : VK), Drw D H → (∀ v H', Go D H H' → Da K (hid D.p H') v d → Q v H') → t σ H Q
def LitA (K : PySem.W.Frag) (t : TA) (ds : List PyData) : Prop := ∀ (D : DS) (σ : L2.St) (H : Hp) (Q : List V → Hp → Prop), Drw D H → (∀ vs H', Go D H H' → DaAll K (hid D.p H') vs ds → Q vs H') → t σ H Q
section
variable {K : PySem.W.Frag}
theorem lit_non : Lit K (tC .non) .none := fun D σ H Q d q => q _ H (.refl d) .non
theorem lit_bl (b : Bool) : Lit K (tC (.bl b)) (.bool b) := fun D σ H Q d q => q _ H (.refl d) (.bl b)
theorem lit_int (i : Int) : Lit K (tC (.int i)) (.int i) := fun D σ H Q d q => q _ H (.refl d) (.int i)
theorem lit_neg (i : Int) : Lit K (tUn (rU fun i => .int (-i)) (tC (.int i))) (.int (-i)) := fun D σ H Q d q => ⟨i, rfl, q _ H (.refl d) (.int (-i))⟩
theorem lit_str (x : Str) : Lit K (tC (.str x)) (.str x) := fun D σ H Q d q => q _ H (.refl d) (.str x)
theorem lita_nil : LitA K tNil [] := fun D σ H Q d q => q _ H (.refl d) .nil
theorem lita_cons {t : TE} {d : PyData} {ta : TA} {ds : List PyData} (h : Lit K t d) (r : LitA K ta ds) : LitA K (tCons t ta) (d :: ds) := fun D σ H Q dr q =>
  h D σ H _ dr fun v H1 g1 h1 => r D σ H1 _ g1.st fun vs H2 g2 h2 => q _ H2 (g1.trans g2) (.cons (h1.to g2.sm) h2)
theorem lit_tup {ta : TA} {ds : List PyData} (h : LitA K ta ds) (hl : ds.length ≤ 100000) : Lit K (tTup ta) (.tuple ds) := fun D σ H Q dr q =>
  h D σ H _ dr fun vs H1 g1 h1 => ⟨sline (by rw [h1.len]; exact hl), fun p np => by
    have z := g1.st.ne_new np
    have g2 := g1.new (o := .tup vs) np
    refine q _ _ g2 (Da.newT (by rw [hid_ne z]; exact upd_same) (h1.to (Go.of g1.st (same_new np)).sm))⟩
theorem lit_lst {ta : TA} {ds : List PyData} (h : LitA K ta ds) (hl : ds.length ≤ 100000) : Lit K (tLst ta) (.list ds) := fun D σ H Q dr q =>
  h D σ H _ dr fun vs H1 g1 h1 => ⟨sline (by rw [h1.len]; exact hl), fun p np => by
    have z := g1.st.ne_new np
    have g2 := g1.new (o := .lst vs) np
    refine q _ _ g2 (Da.newL (by rw [hid_ne z]; exact upd_same) (h1.to (Go.of g1.st (same_new np)).sm))⟩
/-- the datum that an expression of constants, tuples and lists writes -/
def litE : Nat → Expr → Option PyData
  | _, .Constant .none _ _ => some .none
  | _, .Constant (.bool b) _ _ => some (.bool b)
  | _, .Constant (.int i) _ _ => some (.int i)
  | _, .Constant (.str x) _ _ => some (.str x)
  | _, .UnaryOp .USub (.Constant (.int i) _ _) _ => some (.int (-i))
  | n + 1, .Tuple es _ _ => (litEs (litE n) es).bind fun ds => if ds.length ≤ 1000 then some (.tuple ds) else none
  | n + 1, .List es _ => (litEs (litE n) es).bind fun ds => if ds.length ≤ 1000 then some (.list ds) else none
  | _, _ => none
where litEs (f : Expr → Option PyData) : List Expr → Option (List PyData)
  | [] => some []
  | e :: es => (f e).bind fun d => (litEs f es).map (d :: ·)
def NoStar (X : Cx) (e : Expr) : Prop := ∀ es, starEach (e :: es) X.env = (false, eval e X.env) :: starEach es X.env
theorem litEs_ok {X : Cx} {f : Expr → Option PyData} (hf : ∀ e d, f e = some d → ∃ t, PE X e t ∧ Lit K t d ∧ NoStar X e) : ∀ (es : List Expr) (ds : List PyData), litE.litEs f es = some ds → ∃ t, PA X es t ∧ LitA K t ds
  | [], ds, h => by
    cases h
    exact ⟨_, pa_nil, lita_nil⟩
  | e :: es, ds, h => by
    unfold litE.litEs at h
    cases h1 : f e with
    | none =>
      rw [h1] at h
      cases h
    | some d =>
      rw [h1] at h
      cases h2 : litE.litEs f es with
      | none =>
        rw [h2] at h
        cases h
      | some r =>
        rw [h2] at h
        cases h
        obtain ⟨t, a1, a2, a3⟩ := hf e d h1
        obtain ⟨u, b1, b2⟩ := litEs_ok hf es r h2
        exact ⟨_, pa_cons a1 b1 (a3 es), lita_cons a2 b2⟩
theorem litE_ok {X : Cx} : ∀ (n : Nat) (e : Expr) (d : PyData), litE n e = some d → ∃ t, PE X e t ∧ Lit K t d ∧ NoStar X e := by
  intro n
  induction n with
  | zero =>
    intro e d h
    unfold litE at h
    split at h
    · cases h; exact ⟨_, pe_non, lit_non, fun _ => rfl⟩
    · cases h; exact ⟨_, pe_bl, lit_bl _, fun _ => rfl⟩
    · cases h; exact ⟨_, pe_int, lit_int _, fun _ => rfl⟩
    · cases h; exact ⟨_, pe_str, lit_str _, fun _ => rfl⟩
    · cases h; exact ⟨_, pe_un un_neg pe_int, lit_neg _, fun _ => rfl⟩
    all_goals first | (exfalso; omega) | cases h
  | succ n ih =>
    intro e d h
    unfold litE at h
    split at h
    · cases h; exact ⟨_, pe_non, lit_non, fun _ => rfl⟩
    · cases h; exact ⟨_, pe_bl, lit_bl _, fun _ => rfl⟩
    · cases h; exact ⟨_, pe_int, lit_int _, fun _ => rfl⟩
    · cases h; exact ⟨_, pe_str, lit_str _, fun _ => rfl⟩
    · cases h; exact ⟨_, pe_un un_neg pe_int, lit_neg _, fun _ => rfl⟩
    · rename_i m es x1 p he
      obtain rfl := Nat.succ.inj he
      cases h1 : litE.litEs (litE n) es with
      | none => rw [h1] at h; cases h
      | some ds =>
        rw [h1] at h
        simp only [Option.bind_some] at h
        split at h
        · cases h
          obtain ⟨t, b1, b2⟩ := litEs_ok ih es ds h1
          exact ⟨_, pe_tup b1, lit_tup b2 (by omega), fun _ => rfl⟩
        · cases h
    · rename_i m es p he
      obtain rfl := Nat.succ.inj he
      cases h1 : litE.litEs (litE n) es with
      | none => rw [h1] at h; cases h
      | some ds =>
        rw [h1] at h
        simp only [Option.bind_some] at h
        split at h
        · cases h
          obtain ⟨t, b1, b2⟩ := litEs_ok ih es ds h1
          exact ⟨_, pe_lst b1, lit_lst b2 (by omega), fun _ => rfl⟩
        · cases h
    · cases h
/-- what a list of data holds -/
theorem Da.inL {H : Hp} {p : Addr} {ds : List PyData} (h : Da K H (.ref p) (.list ds)) : ∃ xs, SqL K H p xs ∧ DaAll K H xs ds := by
  cases h with
  | lst hs _ ha => exact ⟨_, hs, ha⟩
theorem Da.inT {H : Hp} {p : Addr} {ds : List PyData} (h : Da K H (.ref p) (.tuple ds)) : ∃ xs, SqT K H p xs ∧ DaAll K H xs ds := by
  cases h with
  | tup hs _ ha => exact ⟨_, hs, ha⟩
end
theorem kit_lt {K : PySem.W.Frag} (d : PyData) (h : tyD d ≠ "dict") : PySem.W.kitAny K (.type (tyD d)) [.type "list", .type "tuple"] = some (decide (tyD d = "list" ∨ tyD d = "tuple")) := by
  by_cases e1 : tyD d = "list"
  · refine kitAny_cons (kit_ty (kit_list d h)) (fun z => ?_) (fun _ => ?_)
    · rw [decide_eq_true e1] at z
      cases z
    · exact decide_eq_true (.inl e1)
  · refine kitAny_cons (kit_ty (kit_list d h)) (fun _ => ?_) (fun z => absurd (of_decide_eq_true z) e1)
    refine kitAny_cons (kit_ty (kit_tuple d h)) (fun z => ?_) (fun z => decide_eq_true (.inr (of_decide_eq_true z)))
    rw [kitAny_nil, decide_eq_false]
    rintro (q | q)
    · exact e1 q
    · exact of_decide_eq_false z q
/-- depth below n, sizes small -/
def Lv : Nat → PyData → Prop
  | _, .none => True
  | _, .bool _ => True
  | _, .int _ => True
  | _, .str x => x.length ≤ 100000 ∧ PyData.strOk x = true
  | 0, .list _ => False
  | 0, .tuple _ => False
  | n + 1, .list xs => xs.length ≤ 60 ∧ ∀ x ∈ xs, Lv n x
  | n + 1, .tuple xs => xs.length ≤ 60 ∧ ∀ x ∈ xs, Lv n x
  | _, .dict _ => False
def lvB : Nat → PyData → Bool
  | _, .none => true
  | _, .bool _ => true
  | _, .int _ => true
  | _, .str x => decide (x.length ≤ 100000) && PyData.strOk x
  | 0, .list _ => false
  | 0, .tuple _ => false
  | n + 1, .list xs => decide (xs.length ≤ 60) && xs.all (lvB n)
  | n + 1, .tuple xs => decide (xs.length ≤ 60) && xs.all (lvB n)
  | _, .dict _ => false
theorem lv_of : ∀ (n : Nat) (d : PyData), lvB n d = true → Lv n d
  | 0, .none, _ => trivial
  | 0, .bool _, _ => trivial
  | 0, .int _, _ => trivial
  | 0, .str x, h => by
    obtain ⟨a, b⟩ := Bool.and_eq_true_iff.mp h
    exact ⟨of_decide_eq_true a, b⟩
  | 0, .list _, h => nomatch h
  | 0, .tuple _, h => nomatch h
  | 0, .dict _, h => nomatch h
  | n + 1, .none, _ => trivial
  | n + 1, .bool _, _ => trivial
  | n + 1, .int _, _ => trivial
  | n + 1, .str x, h => by
    obtain ⟨a, b⟩ := Bool.and_eq_true_iff.mp h
    exact ⟨of_decide_eq_true a, b⟩
  | n + 1, .list xs, h => by
    obtain ⟨a, b⟩ := Bool.and_eq_true_iff.mp h
    exact ⟨of_decide_eq_true a, fun x hx => lv_of n x (List.all_eq_true.mp b x hx)⟩
  | n + 1, .tuple xs, h => by
    obtain ⟨a, b⟩ := Bool.and_eq_true_iff.mp h
    exact ⟨of_decide_eq_true a, fun x hx => lv_of n x (List.all_eq_true.mp b x hx)⟩
  | n + 1, .dict _, h => nomatch h
theorem Lv.up : ∀ (n : Nat) (d : PyData), Lv n d → Lv (n + 1) d
  | 0, .none, _ => trivial
  | 0, .bool _, _ => trivial
  | 0, .int _, _ => trivial
  | 0, .str x, h => h
  | 0, .list _, h => h.elim
  | 0, .tuple _, h => h.elim
  | 0, .dict _, h => h.elim
  | n + 1, .none, _ => trivial
  | n + 1, .bool _, _ => trivial
  | n + 1, .int _, _ => trivial
  | n + 1, .str x, h => h
  | n + 1, .list xs, h => ⟨h.1, fun x hx => Lv.up n x (h.2 x hx)⟩
  | n + 1, .tuple xs, h => ⟨h.1, fun x hx => Lv.up n x (h.2 x hx)⟩
  | n + 1, .dict _, h => h.elim
mutual
theorem Lv.shape : ∀ (n : Nat) (d : PyData), Lv n d → d.canLay0 = true ∧ d.depth ≤ n
  | 0, .none, _ => ⟨by simp only [PyData.canLay0], by simp [PyData.depth]⟩
  | 0, .bool _, _ => ⟨by simp only [PyData.canLay0], by simp [PyData.depth]⟩
  | 0, .int _, _ => ⟨by simp only [PyData.canLay0], by simp [PyData.depth]⟩
  | 0, .str x, h => ⟨by simp only [PyData.canLay0]; exact h.2, by simp [PyData.depth]⟩
  | 0, .list _, h => h.elim
  | 0, .tuple _, h => h.elim
  | 0, .dict _, h => h.elim
  | n + 1, .none, _ => ⟨by simp only [PyData.canLay0], by simp [PyData.depth]⟩
  | n + 1, .bool _, _ => ⟨by simp only [PyData.canLay0], by simp [PyData.depth]⟩
  | n + 1, .int _, _ => ⟨by simp only [PyData.canLay0], by simp [PyData.depth]⟩
  | n + 1, .str x, h => ⟨by simp only [PyData.canLay0]; exact h.2, by simp [PyData.depth]⟩
  | n + 1, .list xs, h => by
    obtain ⟨a, b⟩ := Lv.shapes n xs h.2
    exact ⟨by simp only [PyData.canLay0]; exact a, by simp only [PyData.depth]; omega⟩
  | n + 1, .tuple xs, h => by
    obtain ⟨a, b⟩ := Lv.shapes n xs h.2
    exact ⟨by simp only [PyData.canLay0]; exact a, by simp only [PyData.depth]; omega⟩
  | n + 1, .dict _, h => h.elim
theorem Lv.shapes : ∀ (n : Nat) (xs : List PyData), (∀ x ∈ xs, Lv n x) → PyData.canLayAll0 xs = true ∧ PyData.depthAll xs ≤ n
  | n, [], _ => ⟨by simp only [PyData.canLayAll0], by simp [PyData.depthAll]⟩
  | n, x :: xs, h => by
    obtain ⟨a, b⟩ := Lv.shape n x (h x List.mem_cons_self)
    obtain ⟨c, e⟩ := Lv.shapes n xs fun y hy => h y (List.mem_cons_of_mem _ hy)
    exact ⟨by simp only [PyData.canLayAll0, a, c, Bool.and_self], by simp only [PyData.depthAll]; omega⟩
end
theorem Lv.shaped {n : Nat} {d : PyData} (h : Lv n d) (hn : n ≤ 64) : SeqAt.shaped d = true := by
  obtain ⟨a, b⟩ := Lv.shape n d h
  unfold SeqAt.shaped
  rw [a, decide_eq_true (by omega)]
  rfl
theorem strOk_lw {x : Str} (h : Lw x) : PyData.strOk x = true := by
  unfold PyData.strOk
  rw [Array.all_eq_true']
  intro c hc
  have q := h c (by unfold cs; exact Array.mem_toList_iff.mpr hc)
  have all : ∀ c ∈ cs abc, c < 0x110000 := by decide +kernel
  exact decide_eq_true (all c q)
theorem lv_nm {n : Nat} {x : Str} (h : isNm x = true) : Lv n (.str x) := by
  obtain ⟨h1, h2, h3⟩ := isNm_iff.mp h
  have q : x.length ≤ 100000 ∧ PyData.strOk x = true := ⟨by omega, strOk_lw h3⟩
  cases n <;> exact q
/-- a datum is a name -/
def nmD : PyData → Bool
  | .str x => isNm x
  | _ => false
/-- data that comes now and then -/
def odds : List PyData := [.none, .bool true, .bool false, .int 0, .int 1, .int (-1), .int 30, .int 999999999, .str "", .str "a", .str "A", .str "ab1", .str "abcdefg", .str "a b", .str "a\n", .str "{", .tuple [], .list [], .tuple [.str "a"], .list [.str "a"],
  .tuple [.str "b", .str "a"], .tuple [.str "a", .str "a"], .tuple [.str "a", .int 1], .tuple [.none], .tuple [.bool true], .tuple [.tuple [.str "a"]], .list [.list [.str "a"]], .tuple [.str "a", .list [.str "a"]], .tuple [.str "a", .str ""], .tuple [.str "a", .str "B"],
  .list [.str "a", .tuple [.str "a"]], .tuple [.str "a", .tuple [.str "b", .str "a"]], .tuple [.str "a", .tuple []], .tuple [.str "a", .list []], .tuple [.int 1, .tuple [.str "a"]]]
theorem odds_lv : ∀ d ∈ odds, Lv 2 d := by
  have h : odds.all (lvB 2) = true := by decide +kernel
  exact fun d hd => lv_of 2 d (List.all_eq_true.mp h d hd)
/-- one deeper -/
def LvN : Nat → PyData → Prop
  | 0, _ => False
  | n + 1, d => Lv n d
theorem lvn_list {n : Nat} {xs : List PyData} (h : Lv n (.list xs)) : xs.length ≤ 60 ∧ ∀ x ∈ xs, LvN n x := by
  cases n with
  | zero => exact h.elim
  | succ n => exact h
theorem lvn_tuple {n : Nat} {xs : List PyData} (h : Lv n (.tuple xs)) : xs.length ≤ 60 ∧ ∀ x ∈ xs, LvN n x := by
  cases n with
  | zero => exact h.elim
  | succ n => exact h
theorem da_two {K : PySem.W.Frag} {H : Hp} {v u : V} {d : PyData} {k : Nat} (hv : Da K H v d) (hu : Da K H u d) (h : tyD d = "list" ∨ tyD d = "tuple") (lv : Lv k d) :
    ∃ p r xs ys ds, v = .ref p ∧ u = .ref r ∧ (SqL K H p xs ∨ SqT K H p xs) ∧ (SqL K H r ys ∨ SqT K H r ys) ∧ DaAll K H xs ds ∧ DaAll K H ys ds ∧ ds.length ≤ 60 ∧ ∀ x ∈ ds, LvN k x := by
  cases d with
  | list ds =>
    cases hv with
    | lst h1 _ h2 =>
      cases hu with
      | lst g1 _ g2 => exact ⟨_, _, _, _, ds, rfl, rfl, .inl h1, .inl g1, h2, g2, (lvn_list lv).1, (lvn_list lv).2⟩
  | tuple ds =>
    cases hv with
    | tup h1 _ h2 =>
      cases hu with
      | tup g1 _ g2 => exact ⟨_, _, _, _, ds, rfl, rfl, .inr h1, .inr g1, h2, g2, (lvn_tuple lv).1, (lvn_tuple lv).2⟩
  | none => rcases h with h | h <;> exact absurd h (by decide)
  | bool b => rcases h with h | h <;> exact absurd (show ("bool" : String) = _ from h) (by decide)
  | int b => rcases h with h | h <;> exact absurd (show ("int" : String) = _ from h) (by decide)
  | str b => rcases h with h | h <;> exact absurd (show ("str" : String) = _ from h) (by decide)
  | dict b => cases hv
theorem ix_any {K : PySem.W.Frag} {H : Hp} {p : Addr} {xs : List V} {i : Nat} {v : V} {Q : VK} (h : SqL K H p xs ∨ SqT K H p xs) (e : xs[i]? = some v) (q : Q v H) : rIx K (.ref p) (.int ((0 : Int) + (i : Int))) H Q := by
  have a : atI xs ((0 : Int) + (i : Int)) = some v := by
    rw [Int.zero_add]
    exact atI_nat e
  rcases h with h | h
  · exact .inl ⟨p, xs, _, v, rfl, rfl, h, a, q⟩
  · exact .inr (.inl ⟨p, xs, _, v, rfl, rfl, h, a, q⟩)
theorem sq_any {K : PySem.W.Frag} {H H' : Hp} {p : Addr} {xs : List V} (s : Same H H') (h : SqL K H p xs ∨ SqT K H p xs) : SqL K H' p xs ∨ SqT K H' p xs := h.imp s.seq (same_t s)
/-- a judge of one datum, that changes nothing -/
def spJ (K : PySem.W.Frag) (n : Nat) (j : PyData → Bool) : Sp := fun vs H Q _ => ∃ (v : V) (d : PyData), vs = [v] ∧ Da K H v d ∧ Lv n d ∧ ∀ H', Same H H' → Q (.bl (j d)) H'
end Th
/-! texts in order, lots, statements -/
namespace Th
open PySem PySem.Spec PyProof.Rows L2
/-- x stands behind y or is y -/
def leS (x y : Str) : Prop := ¬ cs y < cs x
theorem ltCps_iff (x y : Str) : ltCps x.cps.toList y.cps.toList = decide (cs x < cs y) := by
  first | rfl | (rw [ltCps_eq]; rfl) | exact ltCps_eq ..
theorem rising_pair : ∀ (r : List Str) (p : Str), risingS p r = true → (p :: r).Pairwise leS
  | [], p, _ => List.pairwise_singleton _ _
  | x :: r, p, h => by
    have h' : (!ltCps x.cps.toList p.cps.toList && risingS x r) = true := h
    obtain ⟨a, b⟩ := Bool.and_eq_true_iff.mp h'
    have a' : leS p x := by
      rw [ltCps_iff] at a
      intro z
      rw [decide_eq_true z] at a
      cases a
    have ih := rising_pair r x b
    refine List.pairwise_cons.mpr ⟨fun y hy => ?_, ih⟩
    rcases List.mem_cons.mp hy with e | hy
    · rw [e]; exact a'
    · have q := (List.pairwise_cons.mp ih).1 y hy
      intro z
      have t1 := Std.lt_of_lt_of_le z (Std.not_lt.mp a')
      exact q t1
theorem sorted_pair {l : List Str} (h : sortedS l = true) : l.Pairwise leS := by
  cases l with
  | nil => exact List.Pairwise.nil
  | cons x r => exact rising_pair r x h
theorem leS_anti {x y : Str} (a : leS x y) (b : leS y x) : x = y := cs_inj (Std.le_antisymm (Std.not_lt.mp a) (Std.not_lt.mp b))
/-- one list in order has these members -/
theorem sorted_one : ∀ {l m : List Str}, l.Perm m → l.Pairwise leS → m.Pairwise leS → l = m
  | [], m, p, _, _ => (List.nil_perm.mp p).symm
  | x :: l, [], p, _, _ => (List.perm_nil.mp p)
  | x :: l, y :: m, p, h, k => by
    obtain ⟨h1, h2⟩ := List.pairwise_cons.mp h
    obtain ⟨k1, k2⟩ := List.pairwise_cons.mp k
    have e : x = y := by
      rcases List.mem_cons.mp (p.mem_iff.mp (List.mem_cons_self (a := x) (l := l))) with e | hx
      · exact e
      · rcases List.mem_cons.mp (p.mem_iff.mpr (List.mem_cons_self (a := y) (l := m))) with e | hy
        · exact e.symm
        · exact leS_anti (h1 y hy) (k1 x hx)
    subst e
    rw [sorted_one (List.perm_cons _ |>.mp p) h2 k2]
/-- each below the next -/
def risB : List Str → Bool
  | x :: y :: r => decide (cs x < cs y) && risB (y :: r)
  | _ => true
theorem ris_pair : ∀ {l : List Str}, risB l = true → l.Pairwise (fun x y => cs x < cs y)
  | [], _ => List.Pairwise.nil
  | [x], _ => List.pairwise_singleton _ _
  | x :: y :: r, h => by
    obtain ⟨a, b⟩ := Bool.and_eq_true_iff.mp (show (decide (cs x < cs y) && risB (y :: r)) = true from h)
    have ih := ris_pair b
    have a' := of_decide_eq_true a
    refine List.pairwise_cons.mpr ⟨fun z hz => ?_, ih⟩
    rcases List.mem_cons.mp hz with e | hz
    · rw [e]; exact a'
    · exact Std.lt_trans a' ((List.pairwise_cons.mp ih).1 z hz)
theorem pair_ris : ∀ {l : List Str}, l.Pairwise (fun x y => cs x < cs y) → risB l = true
  | [], _ => rfl
  | [x], _ => rfl
  | x :: y :: r, h => by
    obtain ⟨h1, h2⟩ := List.pairwise_cons.mp h
    show (decide (cs x < cs y) && risB (y :: r)) = true
    rw [decide_eq_true (h1 y List.mem_cons_self), pair_ris h2]
    rfl
theorem ris_nodup {l : List Str} (h : risB l = true) : l.Nodup := (ris_pair h).imp fun {x y} a e => by
  rw [e] at a
  exact Std.lt_irrefl a
theorem ris_le {l : List Str} (h : risB l = true) : l.Pairwise leS := (ris_pair h).imp fun {x y} a z => Std.lt_irrefl (Std.lt_trans a z)
theorem once_perm {xs : List Str} (h : xs.Nodup) : (once [] xs).Perm xs := by
  refine (List.perm_ext_iff_of_nodup (once_nodup xs [] List.nodup_nil) h).mpr fun y => ?_
  rw [once_mem]
  simp
/-- the texts in order, each once, are the texts themselves exactly if each is below the next -/
theorem lot_iff {xs ys : List Str} (p : ys.Perm (once [] xs)) (s : sortedS ys = true) : xs = ys ↔ risB xs = true := by
  constructor
  · intro e
    rw [e]
    have nd : ys.Nodup := p.nodup_iff.mpr (once_nodup xs [] List.nodup_nil)
    refine pair_ris ?_
    refine List.Pairwise.imp_of_mem (R := fun x y => leS x y ∧ x ≠ y) ?_ ((sorted_pair s).and nd)
    intro x y _ _ ⟨a, b⟩
    rcases Std.lt_trichotomy (cs x) (cs y) with z | z | z
    · exact z
    · exact absurd (cs_inj z) b
    · exact absurd z a
  · intro h
    exact sorted_one ((once_perm (ris_nodup h)).symm.trans p.symm) (ris_le h) (sorted_pair s)

def strD : PyData → Str
  | .str x => x
  | _ => Str.empty
theorem nmD_str {d : PyData} (h : nmD d = true) : d = .str (strD d) := by
  cases d <;> first | rfl | cases h
theorem nms_strs : ∀ {ds : List PyData}, ds.all nmD = true → ds = (ds.map strD).map .str
  | [], _ => rfl
  | d :: ds, h => by
    obtain ⟨a, b⟩ := Bool.and_eq_true_iff.mp (show (nmD d && ds.all nmD) = true from h)
    rw [List.map_cons, List.map_cons, ← nms_strs b, ← nmD_str a]
/-- a datum is a lot -/
def lotD : PyData → Bool
  | .tuple ds => !ds.isEmpty && ds.all nmD && risB (ds.map strD)
  | _ => false
theorem lotD_tup (ds : List PyData) : lotD (.tuple ds) = (!ds.isEmpty && ds.all nmD && risB (ds.map strD)) := rfl
def eqS : PyData → Str → Bool
  | .str y, x => y == x
  | _, _ => false
theorem eqv_str (d : PyData) (x : Str) : PyData.eqv d (.str x) = eqS d x := by
  cases d <;> simp [PyData.eqv, eqS]
theorem eqS_iff {d : PyData} {x : Str} : eqS d x = true ↔ d = .str x := by
  cases d <;> simp [eqS]
theorem eqv_strs : ∀ xs ys : List Str, PyData.eqvAll (xs.map .str) (ys.map .str) = decide (xs = ys)
  | [], [] => by simp [PyData.eqvAll]
  | [], _ :: _ => by simp [PyData.eqvAll]
  | _ :: _, [] => by simp [PyData.eqvAll]
  | x :: xs, y :: ys => by
    rw [List.map_cons, List.map_cons]
    have e : PyData.eqvAll (PyData.str x :: xs.map .str) (PyData.str y :: ys.map .str) = (PyData.eqv (.str x) (.str y) && PyData.eqvAll (xs.map .str) (ys.map .str)) := by simp [PyData.eqvAll]
    rw [e, eqv_strs xs ys, eqv_str, Bool.eq_iff_iff, Bool.and_eq_true, eqS_iff]
    simp
/-- a datum is a statement -/
def stD : PyData → Bool
  | .tuple (.str h :: r) => if h = "lot" then (r.length == 1 && r.all lotD) else if h = "before" then (r.length == 2 && r.all nmD) else (decide (h = "never") && r.isEmpty)
  | _ => false
theorem lv_head {n : Nat} {d : PyData} {r : List PyData} (h : Lv (n + 1) (.tuple (d :: r))) : Lv n d := h.2 d List.mem_cons_self
theorem lv_in {n : Nat} {ds : List PyData} {d : PyData} (h : Lv (n + 1) (.tuple ds)) (m : d ∈ ds) : Lv n d := h.2 d m
theorem lv_lot {n : Nat} {xs : List Str} (h : ∀ x ∈ xs, isNm x = true) (hl : xs.length ≤ 60) : Lv (n + 1) (.tuple (xs.map .str)) :=
  ⟨by rw [List.length_map]; exact hl, fun x hx => by
    obtain ⟨y, hy, rfl⟩ := List.mem_map.mp hx
    exact lv_nm (h y hy)⟩
theorem lv_lotL {n : Nat} {xs : List Str} (h : ∀ x ∈ xs, isNm x = true) (hl : xs.length ≤ 60) : Lv (n + 1) (.list (xs.map .str)) :=
  ⟨by rw [List.length_map]; exact hl, fun x hx => by
    obtain ⟨y, hy, rfl⟩ := List.mem_map.mp hx
    exact lv_nm (h y hy)⟩
theorem scan_small {n : Nat} (h : n ≤ 1000) : n + 1 < scanBound := by
  unfold scanBound
  omega
end Th
namespace Th
open PySem PySem.Spec PyProof.Rows L2
theorem kp {H : Hp} {l q : Addr} {o u : HO} (h : H l = some o) (hq : H q = none) : (upd H q u) l = some o := by
  rw [upd_ne (ne_of_none h hq)]
  exact h
/-- a part of data is data -/
theorem DaAll.cut {K : PySem.W.Frag} {H : Hp} {vs : List V} {ds : List PyData} (h : DaAll K H vs ds) (lo hi : Option Int) : ∃ es, DaAll K H (cutV vs lo hi) es ∧ (∀ e ∈ es, e ∈ ds) ∧ es.length ≤ ds.length := by
  unfold cutV
  refine ⟨_, (h.drop _).take _, fun e he => List.mem_of_mem_drop (List.mem_of_mem_take he), ?_⟩
  rw [List.length_take, List.length_drop]
  omega
theorem lv_snoc {n : Nat} {a b : List PyData} (h : ∀ d ∈ a, Lv n d) (k : ∀ d ∈ b, Lv n d) : ∀ d ∈ a ++ b, Lv n d := fun d hd => by
  rcases List.mem_append.mp hd with z | z
  · exact h d z
  · exact k d z
theorem lv_one {n : Nat} {d : PyData} (h : Lv n d) : ∀ e ∈ [d], Lv n e := fun e he => by
  rw [List.mem_singleton.mp he]
  exact h
theorem cutL {xs : List V} {ds : List PyData} {lo hi : Option Int} (h : xs.length = ds.length) : (cutV xs lo hi).length ≤ ds.length := by
  rw [← h]
  exact cutV_length xs lo hi
theorem cut_strs (zs : List Str) (lo hi : Option Int) : ∃ ws : List Str, cutV (zs.map V.str) lo hi = ws.map V.str ∧ (∀ x ∈ ws, x ∈ zs) ∧ ws.length ≤ zs.length := by
  unfold cutV
  refine ⟨(zs.drop (HT.sIx (zs.map V.str).length 0 lo)).take (HT.sIx (zs.map V.str).length (zs.map V.str).length hi - HT.sIx (zs.map V.str).length 0 lo), ?_, fun x hx => List.mem_of_mem_drop (List.mem_of_mem_take hx), ?_⟩
  · rw [List.map_take, List.map_drop]
  · rw [List.length_take, List.length_drop]
    omega
theorem lv_names {xs : List Str} (h : ∀ x ∈ xs, isNm x = true) (n : Nat) : ∀ d ∈ xs.map PyData.str, Lv n d := fun d hd => by
  obtain ⟨x, hx, rfl⟩ := List.mem_map.mp hd
  exact lv_nm (h x hx)
theorem lv_word (n : Nat) (x : Str) (h : PyData.strOk x = true) (h2 : x.length ≤ 100000) : Lv n (.str x) := by
  cases n <;> exact ⟨h2, h⟩
theorem Lv.ups {n m : Nat} {d : PyData} (h : Lv n d) (k : n ≤ m) : Lv m d := by
  induction k with
  | refl => exact h
  | step _ ih => exact ih.up
end Th
/-! a dict of the text with a few words as keys -/
namespace Th
open PySem PySem.Spec PyProof.Rows L2
/-- what a dict of the text holds at a word -/
def lookE : List (Str × Value) → Str → Option Value
  | [], _ => none
  | (k, v) :: r, z => if k = z then some v else lookE r z
theorem ns_of {K : PySem.W.Frag} {d : Addr} {c : Value} {od : Option Addr} {n : Nat} {sl : Array (Option Value)} : ∀ (es : List DictEntry) (kvs : List (Str × Value)), K.lookup d = some ⟨c, od, .dict es.toArray n, sl⟩ →
    Paired (fun (e : DictEntry) (p : Str × Value) => (∃ t, e.key = .str p.1 t) ∧ e.val = p.2) es kvs → ∀ z : Str, PySem.W.nsIn K d z = some (lookE kvs z) := by
  intro es kvs l p z
  unfold PySem.W.nsIn
  rw [l]
  show (match es.find? (fun e => e.key.isStr z) with | some e => some (some e.val) | none => if es.any (·.refKey) then none else some none) = some (lookE kvs z)
  have hno : es.any (·.refKey) = false := by
    clear l
    induction p with
    | nil => rfl
    | cons h _ ih =>
      obtain ⟨⟨t, e⟩, _⟩ := h
      rw [List.any_cons, ih, Bool.or_false]
      simp only [DictEntry.refKey, e]
  rw [hno]
  clear hno l
  induction p with
  | nil => rfl
  | @cons e q es kvs h _ ih =>
    obtain ⟨⟨t, e1⟩, e2⟩ := h
    obtain ⟨k, v⟩ := q
    rw [List.find?_cons]
    have hs : e.key.isStr z = decide (k = z) := by
      rw [PySem.W.isStr_of, e1]
      show Value.isStrOf z (.str k t) = _
      simp only [Value.isStrOf]
      rw [Bool.eq_iff_iff, beq_iff_eq, decide_eq_true_eq]
    rw [hs]
    unfold lookE
    by_cases hk : k = z
    · rw [decide_eq_true hk, if_pos hk]
      show some (some e.val) = _
      rw [e2]
    · rw [decide_eq_false hk, if_neg hk]
      exact ih
end Th
namespace Th
open PySem PySem.Spec PyProof.Rows L2
def rKd (K : PySem.W.Frag) (d : Addr) : R2 := fun x y H Q => ∃ (z : Str) (u0 : Value) (v0 : V), x = .ref d ∧ y = .str z ∧ PySem.W.nsIn K d z = some (some u0) ∧ RelV v0 u0 ∧ Q v0 H
def rInKd (K : PySem.W.Frag) (d : Addr) : R2 := fun x y H Q => ∃ (z : Str) (r : Option Value), x = .str z ∧ y = .ref d ∧ PySem.W.nsIn K d z = some r ∧ Q (.bl r.isSome) H
theorem ix_kd {X : Cx} {d : Addr} {es : Array DictEntry} {n : Nat} (D : KDict X.K X.w d es n) : IxR X (rKd X.K d) := by
  intro value slice pins s σ H x y v u Q I rx ry h hs
  have key := op_item_kd D pins s σ H x y v u Q I rx ry h
  obtain ⟨z, u0, v0, rfl, rfl, _⟩ := h
  cases rx
  exact tail_any (kd_type D I) PySem.F.slot_dict_getitem.lookup key hs
end Th
/-! a tuple read backwards -/
namespace Th
open PySem PySem.Spec PyProof.Rows L2 HT
section
variable {prog : Program} {w : World} {A : Around} {E : Value → Shared → Prop} {s : Shared}
theorem adj_rev (n : Nat) : Builtin.Slice.sliceAdjust none none (-1) (n : Int) = ((n : Int) - 1, -1) := by
  unfold Builtin.Slice.sliceAdjust
  simp
theorem places_rev (n : Nat) : Builtin.Slice.slicePlaces ((n : Int) - 1) (-1) (-1) = n := by
  unfold Builtin.Slice.slicePlaces
  have h1 : ¬ ((-1 : Int) > 0) := by decide
  rw [if_neg h1]
  by_cases h : (n : Int) - 1 > -1
  · rw [if_pos h, show (- -1 : Int) = 1 by decide, Int.ediv_one]
    omega
  · rw [if_neg h]
    omega
theorem applied_rev {sl : Addr} {vl vu vs : Value} {n : Nat} {Q : Int × Int × Nat → Shared → Prop} (hs : s.heap.IsSliceOf sl vl vu vs) (pl : IsPart vl none) (pu : IsPart vu none) (ps : IsPart vs (some (-1)))
    (h : Q ((n : Int) - 1, -1, n) s) : wpAny (model prog w) A (Builtin.Slice.sliceApplied (.ref sl) (pure (n : Int))) Q E s := by
  obtain ⟨os, hos, hcs, hds⟩ := id hs
  unfold Builtin.Slice.sliceApplied Builtin.Slice.sliceFields
  refine wpAny_bind (wpAny_bind (wpAny_field hos hds (x := vl) rfl (wpAny_bind (wpAny_field hos hds (x := vu) rfl (wpAny_bind (wpAny_field hos hds (x := vs) rfl (wpAny_pure ?_)))))))
  refine wpAny_bind (slicePart_ ps ?_)
  show wpAny _ _ (if ((-1 : Int) == 0) = true then _ else _) _ _ s
  rw [if_neg (by decide)]
  refine wpAny_bind (slicePart_ pl (wpAny_bind (slicePart_ pu (wpAny_bind (wpAny_pure ?_)))))
  show wpAny _ _ (match Builtin.Slice.sliceAdjust none none (-1) (n : Int) with | (lo, hi) => pure (lo, (-1 : Int), Builtin.Slice.slicePlaces lo hi (-1))) _ _ s
  rw [adj_rev n]
  show wpAny _ _ (pure ((n : Int) - 1, (-1 : Int), Builtin.Slice.slicePlaces ((n : Int) - 1) (-1) (-1))) _ _ s
  rw [places_rev]
  exact wpAny_pure h
theorem fm_congr {α β : Type} {f g : α → Option β} : ∀ {l : List α}, (∀ k ∈ l, f k = g k) → l.filterMap f = l.filterMap g
  | [], _ => rfl
  | a :: r, h => by
    rw [List.filterMap_cons, List.filterMap_cons, h a List.mem_cons_self, fm_congr (l := r) fun k hk => h k (List.mem_cons_of_mem _ hk)]
theorem pick_rev (xs : Array Value) : ((List.range xs.size).filterMap fun (k : Nat) => xs[(((xs.size : Int) - 1) + (k : Int) * (-1)).toNat]?).toArray = xs.toList.reverse.toArray := by
  have e : ((List.range xs.size).filterMap fun (k : Nat) => xs[(((xs.size : Int) - 1) + (k : Int) * (-1)).toNat]?) = (List.range xs.size).filterMap ((fun j => xs[j]?) ∘ fun k => xs.size - 1 - k) := by
    refine fm_congr fun k hk => ?_
    have := List.mem_range.mp hk
    have z : (((xs.size : Int) - 1) + (k : Int) * (-1)).toNat = xs.size - 1 - k := by omega
    rw [z]
    rfl
  rw [e, ← List.filterMap_map, PySem.W.krv_range, List.filterMap_reverse, PySem.W.krv_all]
theorem getItem_tuple_rev {t sl : Addr} {items : Array Value} {vl vu vs : Value} {Q : Value → Shared → Prop} (ht : IsTup s.heap t items) (hs : s.heap.IsSliceOf sl vl vu vs) (pl : IsPart vl none) (pu : IsPart vu none) (ps : IsPart vs (some (-1)))
    (h : Q (.ref s.heap.objs.size) { s with heap := s.heap.push { cls := .type "tuple", data := .seq items.toList.reverse.toArray } })
    (hsz : items.size ≤ sizeLine) : wpAny (model prog w) A (getItem (.ref t) (.ref sl)) Q E s := by
  have htake : sizeOk (.seq items.toList.reverse.toArray) := by
    show items.toList.reverse.toArray.size ≤ sizeLine
    rw [List.size_toArray, List.length_reverse, Array.length_toList]
    omega
  obtain ⟨os, hos, hcs, hds⟩ := id hs
  have hTs : s.TypeIs (.ref sl) "slice" := ⟨os, hos, hcs⟩
  unfold getItem
  try with_reducible refine wpAny_holding ?_
  first | refine wpAny_bind (wpAny_pure ?_) | skip
  refine wpAny_bind (wpAny_sequenceKey ht.typeIs (by decide) ?_)
  refine wpAny_bind (wpAny_callSpecial?_slot (name := Str.ofString "__getitem__") ht.typeIs PyProof.Rows.slot_tuple_getitem
    (wpAny_call_entry PyProof.Rows.slot_tuple_getitem ht.typeIs entry_tuple_getitem ?_ (args_tuple_getitem _ _)))
  show wpAny _ _ (Builtin.Tuple.tupleItemsOf (.ref t) >>= _) _ _ s
  refine wpAny_bind (tupleItemsOf_ ht ?_)
  refine wpAny_bind (wpAny_typeOf hTs ?_)
  rw [if_pos (by decide)]
  refine wpAny_bind (applied_rev hs pl pu ps ?_)
  have hno : ¬ ((((items.size : Int) - 1) == 0 && (-1 : Int) == 1 && items.size == items.size) = true) := by
    rw [show ((-1 : Int) == 1) = false by decide, Bool.and_false, Bool.false_and]
    exact Bool.false_ne_true
  show wpAny _ _ (if (((items.size : Int) - 1) == 0 && (-1 : Int) == 1 && items.size == items.size) = true then _ else _) _ _ s
  rw [if_neg hno, pick_rev]
  first
    | exact wpAny_bind (m := Builtin.Tuple.tupleExact _) (wpAny_newObj_type (wpAny_pure ⟨_, rfl, wpAny_pure h⟩) htake)
    | exact wpAny_bind (m := Builtin.Tuple.tupleExact _) (wpAny_newObj_type (wpAny_bind (wpAny_pure (wpAny_pure ⟨_, rfl, wpAny_pure h⟩))) htake)
    | exact wpAny_bind (wpAny_bind (m := Builtin.Tuple.tupleExact _) (wpAny_newObj_type (wpAny_pure (wpAny_pure ⟨_, rfl, wpAny_pure h⟩)) htake))
    | exact wpAny_bind (wpAny_bind (m := Builtin.Tuple.tupleExact _) (wpAny_newObj_type (wpAny_pure ⟨_, rfl, wpAny_pure h⟩) htake))
end
/-- a tuple whose object has no dict -/
def BareT (H : Hp) (a : Addr) (xs : List V) : Prop := ∃ o : Obj, H a = some (.frz o (.tup xs)) ∧ o.dict = none
theorem BareT.sq {K : PySem.W.Frag} {H : Hp} {a : Addr} {xs : List V} (h : BareT H a xs) : SqT K H a xs := by
  obtain ⟨o, e, _⟩ := h
  exact .inl (.inr ⟨o, e⟩)
theorem BareT.to {H H' : Hp} {a : Addr} {xs : List V} (h : BareT H a xs) (s : Same H H') : BareT H' a xs := by
  obtain ⟨o, e, d⟩ := h
  exact ⟨o, s _ _ e, d⟩
theorem bare_ty {K : PySem.W.Frag} {H : Hp} {a : Addr} {xs : List V} (h : BareT H a xs) : TyX K H (.ref a) (.type "tuple") := by
  obtain ⟨o, e, _⟩ := h
  exact .fTuple e
theorem bare_da {K : PySem.W.Frag} {H : Hp} {a : Addr} {xs : List V} {ds : List PyData} (h : BareT H a xs) (r : DaAll K H xs ds) : Da K H (.ref a) (.tuple ds) := .tup h.sq (bare_ty h) r
def rTupIx (K : PySem.W.Frag) : V → List V → Hp → VK → Prop := fun x xs H Q => ∃ p, ∃ ys : List Str, ∃ z j, x = .ref p ∧ xs = [.str z] ∧ SqT K H p (ys.map V.str) ∧ ys[j]? = some z ∧ (∀ m, m < j → ys[m]? ≠ some z) ∧ Q (.int (j : Nat)) H
theorem mt_tupIx {X : Cx} : MtR X "tuple.index" (rTupIx X.K) := mt_tup_index
def tyBare (x : V) (H : Hp) : Prop := ∃ a xs, x = .ref a ∧ BareT H a xs
section
variable {X : Cx}
theorem ty_bare : TyOk X "tuple" tyBare := by
  intro pins σ H s x v I r ty
  obtain ⟨a, xs, rfl, o, e, d⟩ := ty
  cases r
  have z := I.hok a _ e
  obtain ⟨g, _, its, _, o', g', c, _⟩ : ObjOk X.prog X.w H s.heap a (.frz o (.tup xs)) := z
  rw [g] at g'
  cases g'
  refine ⟨⟨o, g, c⟩, fun b e => ?_⟩
  cases e
  exact ⟨o, g, d⟩
theorem call_tuple_bare : CallR X (.type "tuple") (fun xs H Q => ∃ p ys, xs = [.ref p] ∧ SqL X.K H p ys ∧ ∀ l o, H l = none → o.dict = none → Q (.ref l) (upd H l (.frz o (.tup ys)))) := by
  intro pins s σ H xs us Q I r h
  obtain ⟨p, ys, rfl, hq, q⟩ := h
  obtain ⟨u, rfl, rx⟩ := vals1 r
  cases rx
  obtain ⟨its, r', pl, hz⟩ := I.list hq
  have hlen := r'.length
  refine call_tuple_list pl.isList (fun h' kp => ?_) (by simp only [List.size_toArray] <;> omega)
  have I1 : Inv X pins σ H { s with heap := h' } := I.kept (t' := s.toks) kp
  have I2 : Inv X pins σ (upd H h'.objs.size (.frz { cls := .type "tuple", data := .seq its.toArray } (.tup ys))) { s with heap := h'.push { cls := .type "tuple", data := .seq its.toArray } } :=
    I1.laid (t' := s.toks) (fun b o e => Heap.get?_push_of_some _ e) (Nat.le_refl _) (show ObjOk X.prog X.w _ _ _ (.frz { cls := .type "tuple", data := .seq its.toArray } (.tup ys)) from ⟨Heap.get?_push_size _ rfl, hz, its, r', IsTup.new _ _⟩)
  exact ⟨.ref h'.objs.size, _, I2, rfl, q _ _ (I1.hok.fresh (Nat.le_refl _)) rfl⟩
end
section
variable {X : Cx}
/-- a tuple backwards, in a new tuple -/
def tRevT (K : PySem.W.Frag) (te : TE) : TE := fun σ H Q => te σ H fun x H1 => ∃ a xs, x = .ref a ∧ SqT K H1 a xs ∧ ∀ p o, H1 p = none → o.dict = none → Q (.ref p) (upd H1 p (.frz o (.tup xs.reverse)))
theorem pe_revT {e : Expr} {te : TE} {k : Nat} {p1 p2 p3 pos : Pos} (he : PE X e te) : PE X (.Subscript e (.Slice none none (some (.UnaryOp .USub (.Constant (.int 1) k p1) p2)) p3) pos) (tRevT X.K te) := by
  refine ⟨fun pins s σ H Q I h => ?_⟩
  refine Subscript_ (thn (he.run pins s σ H _ I h) fun v s1 ⟨x, H1, I1, r1, q1⟩ => ?_)
  obtain ⟨a, xs, ex, hx, q⟩ := q1
  subst ex
  cases r1
  have hst : PO X (some (.UnaryOp .USub (.Constant (.int 1) k p1) p2)) (tPart (tUn (rU fun i => .int (-i)) (tC (.int 1)))) := po_some (pe_un un_neg pe_int)
  refine wpAny_Slice (thn (po_none.run pins s1 σ H1 (fun o H2 => o = none ∧ H2 = H1) I1 ⟨rfl, rfl⟩) fun vl s2 ⟨l, H2, I2, pl, el, e2⟩ => ?_)
  subst el e2
  refine thn (po_none.run pins s2 σ H2 (fun o H3 => o = none ∧ H3 = H2) I2 ⟨rfl, rfl⟩) fun vu s3 ⟨u, H3, I3, pu, eu, e3⟩ => ?_
  subst eu e3
  refine thn (hst.run pins s3 σ H3 (fun o H4 => o = some (-1) ∧ H4 = H3) I3 ⟨1, rfl, -1, rfl, rfl, rfl⟩) fun vs s4 ⟨o, H4, I4, ps, eo, e4⟩ => ?_
  subst eo e4
  have I5 : Inv X pins σ H4 { s4 with heap := s4.heap.push { cls := .type "slice", data := .fields #[vl, vu, vs] } } := I4.kept (t' := s4.toks) fun b ob q => Heap.get?_push_of_some _ q
  obtain ⟨its, r, ht, hz⟩ := I5.tuple hx
  have hlen : its.toArray.size = xs.length := by rw [List.size_toArray]; exact r.length.symm
  show wpAny (model X.prog X.w) X.A (subscriptTail e (.Slice none none (some (.UnaryOp .USub (.Constant (.int 1) k p1) p2)) p3) (.ref a) (.ref s4.heap.objs.size)) (EP X pins σ Q) X.xe { s4 with heap := s4.heap.push { cls := .type "slice", data := .fields #[vl, vu, vs] } }
  refine tail_any (ops := [.ref a, .ref s4.heap.objs.size]) ht.typeIs PyProof.Rows.slot_tuple_getitem.lookup ?_ (by with_unfolding_all rfl)
  refine getItem_tuple_rev ht (Heap.IsSliceOf.new _ vl vu vs) pl pu ps ?_ (by rw [hlen]; exact hz)
  refine ⟨.ref _, _, I5.laid (t' := s4.toks) (o := .frz { cls := .type "tuple", data := .seq its.toArray.toList.reverse.toArray } (.tup xs.reverse)) (fun b ob q => Heap.get?_push_of_some _ q) (Nat.le_refl _) ?_, rfl, q _ _ (I5.hok.fresh (Nat.le_refl _)) rfl⟩
  exact ⟨Heap.get?_push_size _ rfl, by rw [List.length_reverse]; exact hz, _, r.reverse, IsTup.new _ _⟩
end
end Th
/-! sorted(a tuple of texts) -/
namespace L2
open PySem PySem.Spec PyProof.Rows
section
variable {P : Program} {w : World} {A : Around} {E : Value → Shared → Prop} {s : Shared}
theorem tt_collect {t : Addr} {vs : List Value} {Q : List Value → Shared → Prop} (ht : IsTup s.heap t vs.toArray) (hz : vs.length ≤ sizeLine)
    (fin : ∀ s1 : Shared, (∀ b o, s.heap.get? b = some o → s1.heap.get? b = some o) → s1.gens = s.gens → s1.os = s.os → s.heap.objs.size ≤ s1.heap.objs.size → Q vs s1) :
    wpAny (model P w) A (collect (.ref t)) Q E s := by
  obtain ⟨o, ho, hc, n, hd⟩ := ht
  have hn : (s.heap.push (seqObj "list" #[] 0)).get? s.heap.objs.size = some (seqObj "list" #[] 0) := Heap.get?_push_size _ rfl
  unfold collect
  refine wpAny_bind (wpAny_runValue (codeAny_builtin entry_proto_collect' ?_))
  show wpAny _ _ (do again (.builtin "list.__iadd__" ⟨[← newList [], .ref t], []⟩)) _ _ s
  refine wpAny_bind (wpAny_newList (wpAny_pure ⟨Code.quiet_builtin _ (by decide +kernel), codeAny_builtin entry_list_iadd' ?_⟩))
  show wpAny _ _ (Builtin.List.listExtendWith (.ref s.heap.objs.size) (.ref t) (.ref s.heap.objs.size)) _ _ { s with heap := s.heap.push (seqObj "list" #[] 0) }
  have ho' : (s.heap.push (seqObj "list" #[] 0)).get? t = some o := Heap.get?_push_of_some _ ho
  unfold Builtin.List.listExtendWith
  refine wpAny_bind (wpAny_typeOf (T := "tuple") ⟨o, ho', hc⟩ ?_)
  rw [if_pos (by simp)]
  refine wpAny_bind (listItems_at ho' hd (wpAny_bind (listItems_at (xs := #[]) (n := 0) hn rfl ?_)))
  rw [if_neg (by simp)]
  refine wpAny_bind (listUpdate_at (xs := #[]) (n := 0) hn rfl ?_ (Nat.zero_le _) (by rw [Array.size_append, List.size_toArray]; show 0 + vs.length ≤ sizeLine + 1; omega))
  refine wpAny_pure ?_
  show wpAny (model P w) A (do
      let o ← load s.heap.objs.size
      match o.data with
      | .seq xs _ => pure xs.toList
      | _ => unsupported "internal:collect") Q E { s with heap := (s.heap.push (seqObj "list" #[] 0)).update s.heap.objs.size (Obj.mapSeq (· ++ vs.toArray)) }
  refine wpAny_bind (wpAny_load (get?_update_seq hn _) ?_)
  show wpAny _ _ (pure ((#[] : Array Value) ++ vs.toArray).toList) Q E _
  rw [show ((#[] : Array Value) ++ vs.toArray).toList = vs by simp]
  refine wpAny_pure (fin _ (fun b u hb => ?_) rfl rfl ?_)
  · have lt := Heap.lt_size hb
    show ((s.heap.push (seqObj "list" #[] 0)).update s.heap.objs.size (Obj.mapSeq (· ++ vs.toArray))).get? b = some u
    rw [Heap.get?_update_ne _ _ _ _ (Nat.ne_of_lt lt)]
    exact Heap.get?_push_of_some _ hb
  · show s.heap.objs.size ≤ ((s.heap.push (seqObj "list" #[] 0)).update s.heap.objs.size (Obj.mapSeq (· ++ vs.toArray))).objs.size
    rw [Heap.size_update, size_push']
    exact Nat.le_succ _
theorem tt_sorted {a : Addr} {vs : List Value} {l : List Str} {Q : Value → Shared → Prop} (ht : IsTup s.heap a vs.toArray) (hS : StrsAre vs l) (h64 : vs.length < 64)
    (fin : ∀ s' p (out : Array Value) (c : Nat) (ys : List Str), (∀ b o, s.heap.get? b = some o → s'.heap.get? b = some o) → s'.gens = s.gens → s'.os = s.os → s.heap.objs.size ≤ p →
      s'.heap.get? p = some (seqObj "list" out c) → StrsAre out.toList ys → ys.Perm l → sortedS ys = true → Q (.ref p) s') :
    wpAny (model P w) A (call (.builtin "sorted") [.ref a]) Q E s := by
  have hz : vs.length ≤ sizeLine := by rw [sizeLine_eq]; omega
  refine Calls.call_function_entry kind_sorted plain_sorted entry_sorted (args_sorted1 _) ?_
  unfold Builtin.«sorted»
  refine wpAny_bind (m := checkCount "sorted" 1 1 _) (wpAny_pure ?_)
  refine wpAny_bind (tt_collect ht hz fun s1 k1 g1 o1 hz1 => ?_)
  refine wpAny_bind (wpAny_newList ?_ hz)
  have hoL : (s1.heap.push (seqObj "list" vs.toArray 0)).get? s1.heap.objs.size = some (seqObj "list" vs.toArray 0) := Heap.get?_push_size _ rfl
  refine wpAny_bind (wpAny_holding (wpAny_call_entry slot_list_sort ⟨_, hoL, rfl⟩ entry_list_sort
    (list_sort_treeK strKind_oneLt hoL hS.keysOf (fun v₁ v₂ rest e => keyKind_strs (by rw [← e]; exact hS)) h64 fun st' a1 a2 => ⟨_, rfl, ?_⟩) (args_list_sort _)))
  obtain ⟨ys, b1, b2, b3⟩ := sorted_out_str hS a1 a2
  obtain ⟨c, hc⟩ := sortedHeap_at (vs := vs) (out := (arrOf st').map (·.2)) hoL
  refine wpAny_pure ⟨_, rfl, fin _ s1.heap.objs.size _ c ys (fun b u e => ?_) g1 o1 hz1 hc b1 b2 b3⟩
  have q := k1 b u e
  have hlt := Heap.lt_size q
  show (sortedHeap (s1.heap.push (seqObj "list" vs.toArray 0)) s1.heap.objs.size vs _).get? b = some u
  rw [sortedHeap_old (Nat.ne_of_lt hlt) (by rw [size_push']; exact Nat.lt_succ_of_lt hlt)]
  exact Heap.get?_push_of_some _ q
end
section
variable {X : Cx}
def rSortedTT (K : PySem.W.Frag) : List V → Hp → VK → Prop := fun vs H Q => ∃ (a : Addr) (l : List Str), vs = [V.ref a] ∧ SqT K H a (l.map V.str) ∧ l.length < 64 ∧
  ∀ (ys : List Str) (p : Addr), ys.Perm l → sortedS ys = true → H p = none → Q (.ref p) (upd H p (.lst (ys.map V.str)))
theorem cr_sortedTT : CallR X (.builtin "sorted") (rSortedTT X.K) := by
  intro pins s σ H vs us Q I r h
  obtain ⟨a, l, rfl, ha, h64, q⟩ := h
  obtain ⟨its, rv, ht, hz⟩ := I.tuple ha
  rw [Vals.ref1 r]
  have hl := rv.length
  rw [List.length_map] at hl
  refine tt_sorted ht rv.strs (by rw [← hl]; exact h64) fun s' p out c ys k g o hp hg hi hs hm => ?_
  have hlen : (ys.map V.str).length ≤ sizeLine := by rw [List.length_map, hs.length_eq, sizeLine_eq]; omega
  have hn : H p = none := I.hok.fresh hp
  have J : Inv X pins σ (upd H p (.lst (ys.map V.str))) { s with heap := s'.heap, gens := s'.gens, drawn := s'.drawn, toks := s'.toks } :=
    I.call (ch := []) (Un.laid k hp hn) (I.hok.laid k hp ⟨hlen, out.toList, c, vals_of_strs hi, hg⟩) (by rw [g]; exact I.bare) (fun _ z => nomatch z)
  have e : s' = { s with heap := s'.heap, gens := s'.gens, drawn := s'.drawn, toks := s'.toks } := by
    cases s'
    cases s
    cases o
    rfl
  rw [e]
  exact ⟨.ref p, _, J, rfl, q ys p hs hm hn⟩
end
end L2
/-! own exceptions with fields, over any built-in class: made, stored into, raised -/
namespace PySem
namespace XG
open PySem.W PySem.Calls PyProof.Rows
open Builtin Builtin.ObjectAttr
section
variable {prog : Program} {w : World} {A : Around} {R : Result → Shared → Prop} {hp : Heap} {g : Array GenState} {d : Drawn} {t : Nat} {os : OsState}
variable {K : W.Frag} {name : Str} {tk : Tok} {v : Value} {x C t1 : Addr} {B : String} {bmB : List Value}
abbrev rec_ (C t1 : Addr) (dv : Option Addr) : Obj := { cls := .ref C, dict := dv, data := .fields #[.ref t1, .none, .none, .none, .bool false, .none] }
/-- x.name = v, x without a dict as yet -/
theorem first_store (SF : StoreFacts B bmB "object.__setattr__" "object") (X : K.In hp) (hx : hp.get? x = some (rec_ C t1 none)) (ov : excOver K C bmB = true) (ht : takerIn K C name = some none) (hh : hasDictIn K C = true)
    (hq : ∀ h' tk' dx, (∀ b o, b ≠ x → hp.get? b = some o → h'.get? b = some o) → hp.objs.size ≤ dx → h'.get? x = some (rec_ C t1 (some dx)) → h'.Ns1 dx (fun y => if y = name then some v else none) → R (.ok (.ret .none)) ⟨h', g, d, tk', os⟩) :
    codeAny (model prog w) A (.call (.builtin "object.__setattr__") ⟨[.ref x, .str name tk, v], []⟩) R ⟨hp, g, d, t, os⟩ := by
  refine osa_openX (s := ⟨hp, g, d, t, os⟩) (od := none) SF X ⟨hx, rfl, rfl, trivial⟩ ov ht fun b => ?_
  obtain ⟨cd, hc, hd⟩ := any_some hh
  have lt : x < hp.objs.size := Heap.lt_size hx
  refine wpAny_bind (wpAny_pure (wpAny_bind (instanceDict_exc hx (looks_clsIn X hc) hd ?_)))
  show wpAny _ _ (storeInDict hp.objs.size (.str name tk) name v) _ _ _
  refine HandSPX.store_in_new (hp := (hp.push (dictOf [] 0)).update x fun o => { o with dict := some hp.objs.size }) ⟨_, #[], 0, (Heap.get?_update_ne _ _ _ _ (Nat.ne_of_gt lt)).trans (Heap.get?_push_at rfl rfl), rfl, fun e he => absurd he (by simp), fun _ => rfl⟩ fun h' tk' hn sm => ?_
  have up : ((hp.push (dictOf [] 0)).update x fun o => { o with dict := some hp.objs.size }).get? x = some (rec_ C t1 (some hp.objs.size)) := Heap.get?_update_self _ (Heap.get?_push_of_some _ hx) rfl
  refine hq h' tk' hp.objs.size (fun b o nb e => ?_) (Nat.le_refl _) ((sm.2 x (Nat.ne_of_lt lt)).trans up) hn
  have e1 := Heap.get?_push_of_some (dictOf [] 0) e
  exact (sm.2 b (Nat.ne_of_lt (Heap.lt_size e))).trans ((Heap.get?_update_ne _ _ _ _ nb).trans e1)
/-- x.name = v, x's dict at dx -/
theorem next_store {dx : Addr} {m0 : Str → Option Value} {nl : List Str} (SF : StoreFacts B bmB "object.__setattr__" "object") (X : K.In hp) (hx : hp.get? x = some (rec_ C t1 (some dx))) (hn : hp.Ns1 dx m0) (hw : Within m0 nl) (hl : nl.length ≤ 1000)
    (ov : excOver K C bmB = true) (ht : takerIn K C name = some none) (hh : hasDictIn K C = true)
    (hq : ∀ h' tk', (∀ b o, b ≠ dx → hp.get? b = some o → h'.get? b = some o) → h'.Ns1 dx (fun y => if y = name then some v else m0 y) → R (.ok (.ret .none)) ⟨h', g, d, tk', os⟩) :
    codeAny (model prog w) A (.call (.builtin "object.__setattr__") ⟨[.ref x, .str name tk, v], []⟩) R ⟨hp, g, d, t, os⟩ := by
  obtain ⟨od, _, _, D, _, _⟩ := hn.count hw
  refine osa_openX (s := ⟨hp, g, d, t, os⟩) (od := some od) SF X ⟨hx, rfl, rfl, D⟩ ov ht fun b => ?_
  obtain ⟨cd, hc, hd⟩ := any_some hh
  refine wpAny_bind (wpAny_pure (wpAny_bind (wpAny_bind (wpAny_loadPart hx (wpAny_bind ((looks_clsIn X hc).here ?_))))))
  rw [hd]
  refine wpAny_pure (a := some dx) ?_
  exact PySem.OEX.store_in_old hn hw hl fun h' tk' hn' sm => hq h' tk' (fun b o nb e => (sm.2 b nb).trans e) hn'
end
end XG
end PySem

namespace L2
open PySem PySem.Spec PyProof.Rows
/-- what the written part says of an own exception class at C -/
structure ExG (K : PySem.W.Frag) (C : Addr) : Prop where
  over : ∃ (B newId initId : String) (bmB : List Value), ExcBaseFacts B newId initId bmB ∧ StoreFacts B bmB "object.__setattr__" "object" ∧ PySem.W.excInitIn K C bmB newId = true ∧ PySem.W.excOver K C bmB = true
  sa : PySem.W.findIn K (.ref C) "__setattr__" = some (some (.builtin "object.__setattr__"))
  exC : PySem.W.subIn K (.ref C) (.type "BaseException") = some true
  tyC : PySem.W.typeIn K (.ref C) = some (.type "type")
  kC : PySem.W.keepIn K (.ref C) = true
  hd : PySem.W.hasDictIn K C = true
theorem taker_none {K : PySem.W.Frag} {C : Addr} {f : Str} (h : PySem.W.findIn K (.ref C) f = some none) : PySem.W.takerIn K C f = some none := by
  unfold PySem.W.takerIn
  rw [h]
  rfl
section
variable {X : Cx} {pins : List (Addr × Obj)} {σ : St} {H : Hp} {s : Shared} {a C dx : Addr} {f : Str} {y : V} {u : Value} {fs : List (Str × V)} {Q : Unit → Shared → Prop} {E : Value → Shared → Prop} {A : Around}
theorem put_first (T : ExG X.K C) (I : Inv X pins σ H s) (e : H a = some (exo a C none)) (nf : PySem.W.findIn X.K (.ref C) f = some none) (ry : RelV y u)
    (h : ∀ dx s', H dx = none → dx ≠ a → Inv X pins σ (upd (upd H dx (exd dx [(f, y)])) a (exo a C (some dx))) s' → Q () s') : wpAny (model X.prog X.w) A (setAttr (.ref a) f u) Q E s := by
  obtain ⟨B, newId, initId, bmB, FB, SF, ini, ov⟩ := T.over
  obtain ⟨t1, ho⟩ := exo_at I.hok e
  obtain ⟨hp, g, d, t, os⟩ := s
  refine PySem.W.set_plain I.kIn (ox := PySem.XG.rec_ C t1 none) (od := none) ⟨ho, rfl, rfl, trivial⟩ T.sa ?_
  refine PySem.XG.first_store SF I.kIn ho ov (taker_none nf) T.hd fun h' tk' dx k dn hx hn => ?_
  have fr : H dx = none := I.hok.fresh dn
  have ne : dx ≠ a := fun z => Nat.lt_irrefl _ (Nat.lt_of_lt_of_le (by rw [← z] at ho; exact Heap.lt_size ho) dn)
  -- the dict is laid ahead of the object's change
  have g1 : (h'.update a fun _ => PySem.XG.rec_ C t1 none).get? a = some (PySem.XG.rec_ C t1 none) := Heap.get?_update_self _ hx rfl
  have g2 : ∀ b, b ≠ a → (h'.update a fun _ => PySem.XG.rec_ C t1 none).get? b = h'.get? b := fun b nb => Heap.get?_update_ne _ _ _ _ nb
  have I1 : Inv X pins σ (upd H dx (exd dx [(f, y)])) ⟨h'.update a fun _ => PySem.XG.rec_ C t1 none, g, d, tk', os⟩ := by
    refine I.laid (t' := tk') (a := dx) (o := exd dx [(f, y)]) (h' := h'.update a fun _ => PySem.XG.rec_ C t1 none) (fun b o q => ?_) dn (exd_ok (hn.at fun o q => (g2 dx ne).trans q) fun z => ?_)
    · by_cases hb : b = a
      · subst hb
        rw [show hp.get? b = some o from q] at ho
        cases ho
        exact g1
      · exact (g2 b hb).trans (k b o hb q)
    · have z2 := relO_put (f := f) (fs := []) (mA := fun _ => none) ry (fun _ => trivial) z
      exact z2
  have I2 := I1.write (t' := tk') (x := a) (e := a) (o := exo a C (some dx)) (h' := h') (by rw [upd_ne ne.symm, e]; exact True.intro) (.inl rfl) (fun b o nb q => (g2 b nb).symm.trans q) ⟨_, hx⟩ (exo_ok hx)
  exact h dx _ fr ne I2
theorem put_next (T : ExG X.K C) (I : Inv X pins σ H s) (e : H a = some (exo a C (some dx))) (ed : H dx = some (exd dx fs)) (hl : fs.length ≤ 900) (nf : PySem.W.findIn X.K (.ref C) f = some none) (ry : RelV y u)
    (h : ∀ s', Inv X pins σ (upd H dx (exd dx ((f, y) :: fs))) s' → Q () s') : wpAny (model X.prog X.w) A (setAttr (.ref a) f u) Q E s := by
  obtain ⟨B, newId, initId, bmB, FB, SF, ini, ov⟩ := T.over
  obtain ⟨t1, ho⟩ := exo_at I.hok e
  obtain ⟨mA, hns, rel⟩ := exd_at I.hok ed
  have wi := within_of rel
  obtain ⟨hp, g, d, t, os⟩ := s
  obtain ⟨oD, _, _, D, _, _⟩ := hns.count wi
  refine PySem.W.set_plain I.kIn (ox := PySem.XG.rec_ C t1 (some dx)) (od := some oD) ⟨ho, rfl, rfl, D⟩ T.sa ?_
  refine PySem.XG.next_store SF I.kIn ho hns wi (by rw [List.length_map]; omega) ov (taker_none nf) T.hd fun h' tk' k hn => ?_
  have there : ∃ o, h'.get? dx = some o := let ⟨o, _, _, q, _⟩ := hn; ⟨o, q⟩
  exact h _ (I.write (t' := tk') (x := dx) (e := dx) (o := exd dx ((f, y) :: fs)) (by rw [ed]; exact True.intro) (.inl rfl) k there (exd_ok hn (relO_put ry rel)))
end
/-- self.f = e in such a class's __init__ -/
def tPut (K : PySem.W.Frag) (f : Str) (to te : TE) : TS := fun D σ H => te σ H fun y H1 => to σ H1 fun x H2 => ∃ a C : Addr, x = .ref a ∧ ExG K C ∧ PySem.W.findIn K (.ref C) f = some none ∧
  ((H2 a = some (exo a C none) ∧ ∀ dx, H2 dx = none → dx ≠ a → D.nx σ (upd (upd H2 dx (exd dx [(f, y)])) a (exo a C (some dx)))) ∨
    ∃ (dx : Addr) (fs : List (Str × V)), H2 a = some (exo a C (some dx)) ∧ H2 dx = some (exd dx fs) ∧ fs.length ≤ 900 ∧ D.nx σ (upd H2 dx (exd dx ((f, y) :: fs))))
theorem ps_put {X : Cx} {o e : Expr} {to te : TE} {f : Str} {p' pos : Pos} (ho : PE X o to) (he : PE X e te) (hs : swapsWith e (some (.Attribute o f p')) pos.line X.env = pure false := by rfl) : PS X (.Assign [.Attribute o f p'] e pos) (tPut X.K f to te) := by
  constructor
  intro pins s σ H D I h
  refine plainObj_wpAny_Assign_Attribute (thn (he.run pins s σ H _ I h) fun v s1 hv => ?_) hs
  obtain ⟨y, H1, I1, ry, q1⟩ := hv
  refine thn (ho.run pins s1 σ H1 _ I1 q1) fun u s2 hu => ?_
  obtain ⟨x, H2, I2, rx, a, C, ex, T, nf, q⟩ := hu
  subst ex
  obtain rfl : u = Value.ref a := rx
  rcases q with ⟨ea, q⟩ | ⟨dx, fs, ea, ed, hl, q⟩
  · exact put_first T I2 ea nf ry fun dx s' n ne J => ⟨σ, _, J, q dx n ne⟩
  · exact put_next T I2 ea ed hl nf ry fun s' J => ⟨σ, _, J, q⟩
/-- C(e, ..) -/
def tNewX (C : Addr) (sp : Sp) (ta : TA) : St → Hp → XK → Prop := fun σ H Q => ta σ H fun vs H1 => vs.length ≤ 1000 ∧ ∀ a, H1 a = none → sp (.ref a :: vs) (upd H1 a (exo a C none))
  (fun v H2 => v = .non ∧ ∃ (d : Addr) (fs : List (Str × V)), H2 a = some (exo a C (some d)) ∧ H2 d = some (exd d fs) ∧ H1 d = none ∧ Q (.ref C) (some d) (upd (del H2 a) d (.xd fs))) (fun _ _ _ => False)
theorem pmk_new {X : Cx} {x : Str} {C fI : Addr} {k : Nat} {fd : FuncData} {ps : List Str} {sp : Sp} {e : Expr} {es : List Expr} {ta : TA} {p pos : Pos} (T : ExG X.K C) (iC : PySem.W.findIn X.K (.ref C) "__init__" = some (some (.ref fI))) (tI : PySem.W.typeIn X.K (.ref fI) = some (.type "function"))
    (F1 : FnOk X.prog X.w X.K X.mg X.base CX0 k fI fd ps sp) (hr : Room (k + 1) X.A) (hb : Binds X.K fd ps []) (hg : Gl X x) (hm : X.mg x = some (.ref C)) (ha : PA X (e :: es) ta)
    (hdb : (x == ("__debug__" : Str)) = false := by decide) (he : starEach (e :: es) X.env = (false, eval e X.env) :: starEach es X.env := by rfl) (hpl : (backTo pos (starEach es X.env)).any (·.1) = false := by rfl) :
    PMk X (.Call (.Name x p) (e :: es) [] pos) (tNewX C sp ta) := by
  intro pins s σ H Q I h
  obtain ⟨B, newId, initId, bmB, FB, SF, ini, ov⟩ := T.over
  refine wpAny_Call_Name_kw (ld_glob I hg hm ?_ hdb)
  refine PySem.W.callWith_K (h₀ := X.base) I.ok.mod.kin T.kC (thn (ha.run pos pins s σ H _ I h) fun us s1 hu => ?_) he hpl
  obtain ⟨vs, H1, I1, r1, hz, q1⟩ := hu
  refine ⟨I1.kIn, ?_⟩
  obtain ⟨nm, N, qn, bs, bm, hdct, sn, sub, ab, col, dd, k0, k1, k2, k3, k5, hC, hT⟩ := PySem.W.excInit_of I1.kIn ini
  obtain ⟨hp, g, dr, tk, os⟩ := s1
  have up1 : hp.objs.size ≤ (hp.objs.size + 1) := Nat.le_succ _
  have fr : H1 (hp.objs.size + 1) = none := I1.hok.fresh up1
  have got : ((hp.push (PySem.W.kdv_tup us)).push (PySem.HandSPX.excO C hp.objs.size)).get? (hp.objs.size + 1) = some (PySem.HandSPX.excO C hp.objs.size) := by heap_get
  have two : ∀ b o, hp.get? b = some o → ((hp.push (PySem.W.kdv_tup us)).push (PySem.HandSPX.excO C hp.objs.size)).get? b = some o := fun b o q => Heap.get?_push_of_some _ (Heap.get?_push_of_some _ q)
  have I2 := I1.laid (t' := tk) (a := (hp.objs.size + 1)) (o := exo (hp.objs.size + 1) C none) (h' := (hp.push (PySem.W.kdv_tup us)).push (PySem.HandSPX.excO C hp.objs.size)) two up1 (exo_ok got)
  have want := q1 (hp.objs.size + 1) fr
  have r2 : Vals (V.ref (hp.objs.size + 1) :: vs) (Value.ref (hp.objs.size + 1) :: us) := .cons rfl r1
  have len : (Value.ref (hp.objs.size + 1) :: us).length = ps.length := r2.length.symm.trans (F1.len _ _ _ _ want)
  have short : us.length ≤ sizeLine := by
    rw [← Paired.length r1, sizeLine_eq]
    omega
  have hbb := hb _ (Value.ref (hp.objs.size + 1) :: us) I2.kIn (by rw [List.append_nil]; exact len)
  rw [List.append_nil] at hbb
  have run := F1.run _ X.stack _ _ ⟨Value.ref (hp.objs.size + 1) :: us, []⟩ (Value.ref (hp.objs.size + 1) :: us) _ _ (fun _ _ _ => False) (hr.make C us []) (I2.env0.make C us []) hbb r2 want
  refine wpAny_call (PySem.HandSPX.call_own FB hT hC (PySem.W.looks_findIn I1.kIn iC) (fun self => PySem.W.bind_fn I1.kIn self tI) short (codeAny_mono run fun r s' z => ?_))
  cases r with
  | error er => exact z.elim
  | ok fl =>
    cases fl with
    | next => exact z.elim
    | brk => exact z.elim
    | cont => exact z.elim
    | ret u =>
      obtain ⟨v, H2, os2, bare, un, hok, rv, ev, d, fs, ea, ed, hd1, q2⟩ := z
      subst ev
      obtain ⟨h2, g2, d2, t2, os'⟩ := s'
      exact ⟨rv, mk_end (raises_own T.exC T.tyC) I1 up1 two un hok os2 bare ea ed hd1 q2⟩
end L2
/-! an exception caught by a clause of two classes, its fields read, also in a def that it is handed to; a lambda called in a try -/
namespace PySem
namespace XG
theorem fly_on {base h h' : Heap} {l : List Env} {e : Addr} {Z : Obj → Prop} (F : HandSPX.FlyingZ base l e Z h) (k : ∀ b o, h.get? b = some o → h'.get? b = some o) : HandSPX.FlyingZ base l e Z h' := by
  obtain ⟨f1, f2, f3, oe, ws, T, oT, ts, g1, g2, g3, g4, g5, g6, g7, g8, g9⟩ := F
  exact ⟨fun b o q => k b o (f1 b o q), f2, f3.of_keeps fun b o q _ => ⟨o, k b o q, rfl⟩, oe, ws, T, oT, ts, k _ _ g1, g2, g3, g4, g5, g6, k _ _ g7, g8, g9⟩
end XG
end PySem
namespace L2
open PySem PySem.Spec PyProof.Rows L2H
/-! ### a field of a pinned exception -/
/-- the pinned exception: class C, its dict at dd -/
structure PinX (p : Addr × Obj) (C dd : Addr) : Prop where
  z : Zc (.ref C) (some dd) p.2
  f : ∃ vs, p.2.data = .fields vs
def tPinf (K : PySem.W.Frag) (p : Addr × Obj) (f : Str) (te : TE) : TE := fun σ H Q => te σ H fun x H1 => x = .ref p.1 ∧ ∃ (C dd : Addr) (fs : List (Str × V)) (v : V), PinX p C dd ∧ XfC K C ∧ PySem.W.findIn K (.ref C) f = some none ∧ H1 dd = some (.xd fs) ∧ fs.lookup f = some v ∧ Q v H1
theorem pe_pinf {X : Cx} {p : Addr × Obj} {e : Expr} {te : TE} {pos : Pos} {n : Str} (hp : p ∈ X.pn) (he : PE X e te) (hb : attributeBase e n X.env (eval e X.env) = eval e X.env := by rfl) : PE X (.Attribute e n pos) (tPinf X.K p n te) := by
  constructor
  intro pins s σ H Q I h
  refine attr_of hb (thn (he.run pins s σ H _ I h) fun u s1 hu => ?_)
  obtain ⟨x, H1, I1, rx, ex, C, dd, fs, v, P, T, nf, ea, l, q⟩ := hu
  subst ex
  obtain rfl : u = Value.ref p.1 := rx
  have at_ := (I1.pin p (List.mem_append_left _ hp)).1
  obtain ⟨vs, hd⟩ := P.f
  have held : ObjOk X.prog X.w H1 s1.heap dd (.xd fs) := I1.hok dd _ ea
  obtain ⟨mA, hns, rel⟩ := held
  obtain ⟨od, ho, hl⟩ := lookIn_ns hns
  obtain ⟨w, hw, rw⟩ := RelO.some_of (v := v) (o := mA n) (by rw [← l]; exact rel n)
  have J : PySem.W.InstAt s1.heap p.1 p.2 C (some od) := by
    refine ⟨at_, P.z.1, ?_, by rw [P.z.2]; exact ho⟩
    unfold PySem.W.notCls
    rw [hd] <;> rfl
  exact HandSPX.exc_get I1.kIn J T.ga T.gg T.exC (PySem.W.findObj_own T.hdC nf rfl (by rw [hl, hw])) (handed_of rw) ⟨v, H1, I1.tok _, rw, q⟩
/-! ### a def called in an except suite that raises nothing -/
structure FnQ (P : Program) (w : World) (K : PySem.W.Frag) (mg : Str → Option Value) (base : Heap) (k : Nat) (f : Addr) (fd : FuncData) (ps : List Str) (sp : Addr × Obj → Sp) : Prop where
  len : ∀ p vs H Q E, sp p vs H Q E → vs.length = ps.length
  run : ∀ (A : Around) (outer : List Env) (s : Shared) (H : Hp) (args : Args) (us : List Value) (vs : List V) (Q : VK) (E : XK) (p : Addr × Obj), RoomH k A → PinOk outer H s p → Env0 P w K mg base A outer s H → BindsTo s fd args (ps.zip us) → Vals vs us → sp p vs H Q E →
    codeAny (model P w) A (.call (.ref f) args) (CR CX0 outer P w H s Q E) s
theorem quiet_ok {P : Program} {w : World} {K : PySem.W.Frag} {mg : Str → Option Value} {base : Heap} {x qual : Str} {st : Stmt} {f : Addr} {fd : FuncData} {N ps : List Str} {k : Nat} {sp : Addr × Obj → Sp} (F : Fun K x qual st f fd) (S : FnScope N ps (defScope st)) (len : ∀ p vs H Q E, sp p vs H Q E → vs.length = ps.length)
    (hbody : ∀ (cdv : Value) (A : Around) (outer : List Env) (s : Shared) (H : Hp) (vs : List V) (Q : VK) (E : XK) (p : Addr × Obj), RoomH k (A.deeper (envOfC qual (defScope st) s.heap.objs.size f cdv)) → sp p vs H Q E →
      ∃ t, PSs (cxH CX0 P w K mg base N qual (defScope st) f cdv A outer s H E p) (defBody st) t ∧ t { nx := fun _ H' => Q .non H', rt := Q } (L2.start N vs) H) : FnQ P w K mg base (k + 1) f fd ps sp := by
  obtain ⟨oc, od, kV, doc, pm, an, cdv, ct, osl, rfl, lk, hcd⟩ := F.ex
  refine ⟨len, fun A outer s H args us vs Q E p hr pin e0 hb r hsp => ?_⟩
  have inK : K.In s.heap := e0.mod.kin.keeps fun b o e => (e0.bs b o e).1
  have kinds : ∀ y ∈ ps.zip us, (defScope st).names.lookup y.1 = some .local ∨ ((defScope st).names.lookup y.1 = some .cell ∧ ((cellsFrom (s.heap.objs.size + 1) (defScope st).names []).lookup y.1).isSome = true) := by
    rintro ⟨n, v⟩ hy
    rcases S.par n (List.of_mem_zip hy).1 with q | q
    · exact .inl q
    · exact .inr ⟨q, PySem.W.cellsFrom_some _ _ _ (.inl q)⟩
  refine codeAny_call_function hr.depth (inK _ _ lk) rfl S.co S.gen rfl (PySem.W.codeRec_of inK hcd) (hb _ _ _ _ ?_)
  refine wpAny_newFunctionEnv_cells S.kind kinds fun env he s1 x => ?_
  subst he
  refine ⟨(e0.mod.nolimit.keeps fun b o e => (e0.bs b o e).1).keeps x.toInCall.keep, codeAny_func ?_⟩
  obtain ⟨t, ht, hq⟩ := hbody cdv A outer s H vs Q E p (hr.deeper _) hsp
  have I := inv_startH (CX := CX0) (K := K) (mg := mg) (base := base) (P := P) (w := w) (E := E) (A := A) (qual := qual) (f := f) (cd := cdv) S pin e0 (len _ _ _ _ _ hsp) r x
  refine wpAny_mono (ht.run [] s1 (L2.start N vs) H _ I hq) (fun fl s' hs => ?_) fun e s' hs => hs
  cases fl with
  | ret u =>
    obtain ⟨v, σ', H', J, rv, q⟩ := hs
    exact ⟨v, H', J.os, J.bare, J.base, J.hok, rv, q⟩
  | next =>
    obtain ⟨σ', H', J, q⟩ := hs
    exact ⟨V.non, H', J.os, J.bare, J.base, J.hok, rfl, q⟩
  | brk =>
    obtain ⟨_, _, _, q⟩ := hs
    exact False.elim q
  | cont =>
    obtain ⟨_, _, _, q⟩ := hs
    exact False.elim q
theorem pe_callQ {X : Cx} {k : Nat} {f : Addr} {fd : FuncData} {ps : List Str} {sp : Addr × Obj → Sp} {x : Str} {q pos : Pos} {e : Expr} {es : List Expr} {t : TA} {p : Addr × Obj} (hp : p ∈ X.pn) (F : FnQ X.prog X.w X.K X.mg X.base k f fd ps sp) (hr : RoomH k X.A) (hg : Gl X x) (hm : X.mg x = some (.ref f)) (hk : PySem.W.keepIn X.K (.ref f) = true) (hb : Binds X.K fd ps [])
    (ha : PA X (e :: es) t) (hdb : (x == ("__debug__" : Str)) = false := by decide) (he : starEach (e :: es) X.env = (false, eval e X.env) :: starEach es X.env := by rfl) (hpl : (backTo pos (starEach es X.env)).any (·.1) = false := by rfl) :
    PE X (.Call (.Name x q) (e :: es) [] pos) (fun σ H Q => t σ H fun vs H1 => sp p vs H1 Q E0) := by
  constructor
  intro pins s σ H Q I h
  refine wpAny_Call_Name_kw (ld_glob I hg hm ?_ hdb)
  refine PySem.W.callWith_K (h₀ := X.base) I.ok.mod.kin hk (thn (ha.run pos pins s σ H _ I h) fun us s1 hu => ?_) he hpl
  obtain ⟨vs, H1, I1, r, hq⟩ := hu
  refine ⟨I1.kIn, ?_⟩
  have b := hb s1 us I1.kIn (by rw [List.append_nil, ← r.length]; exact F.len _ _ _ _ _ hq)
  rw [List.append_nil] at b
  obtain ⟨p1, p2, p3, p4, p5⟩ := I1.pin p (List.mem_append_left _ hp)
  have pin : PinOk X.stack H1 s1 p := ⟨p1, p2, fun hm => (List.mem_cons.mp (I1.stkSub p.1 hm)).elim p3 p4, p5⟩
  refine wpAny_call (codeAny_mono (F.run X.A X.stack s1 H1 ⟨us, []⟩ us vs Q E0 p hr pin I1.env0 b r hq) fun r s' z => ?_)
  cases r with
  | error e => exact (show False from z).elim
  | ok fl =>
    cases fl with
    | ret u => exact I1.after z
    | next => exact False.elim z
    | brk => exact False.elim z
    | cont => exact False.elim z
/-! ### try: body, except (x1, x2) as n: suite; nothing else flies -/
def wTwo (K : PySem.W.Frag) (c1 c2 : Value) (i : Nat) (ts : Addr → Value → Option Addr → TS) (D : Ends) : WX := fun cls d σ H => PySem.W.exmAny K cls [c1, c2] = some true ∧
  ∀ a, H a = none → i < σ.length → ts a cls d { nx := fun σ' H' => D.nx (σ'.set i none) H', rt := D.rt, bk := fun σ' H' => D.bk (σ'.set i none) H', ct := fun σ' H' => D.ct (σ'.set i none) H' } (σ.set i (some (.ref a))) H
section
variable {X : Cx} {x1 x2 n : Str} {c1 c2 : Value} {i j : Nat} {body suite : List Stmt} {b₀ : Stmt} {q1 q2 q3 pos pos' : Pos} {tb : WX → TS} {ts : Addr → Value → Option Addr → TS}
theorem ps_try_two (hs : X.stack = X.env :: X.outer) (hf : X.env.frame = some X.env.locals) (hN : X.N.Nodup) (hi : X.N[i]? = some n) (hln : X.env.kindOf n = some .local)
    (g1 : Gl X x1) (d1 : (x1 == ("__debug__" : Str)) = false) (m1 : X.mg x1 = some c1) (g2 : Gl X x2) (d2 : (x2 == ("__debug__" : Str)) = false) (m2 : X.mg x2 = some c2)
    (hb : ∀ (W : WX) (pn : List (Addr × Obj)) (xe : Value → Shared → Prop), Takes (X.tr pn xe) W → PSs (X.tr pn xe) body (tb W))
    (hsu : ∀ (a : Addr) (oe : Obj) (cls : Value) (d : Option Addr) (pn : List (Addr × Obj)), Zc cls d oe → (∃ vs, oe.data = .fields vs) → PSs (X.suite a ((a, oe) :: pn)) (b₀ :: suite) (ts a cls d)) :
    PS X (.Try body [.ExceptHandler (some (.Tuple [.Name x1 q1, .Name x2 q2] j q3)) (some n) (b₀ :: suite) pos'] [] [] pos) (fun D σ H => tb (wTwo X.K c1 c2 i ts D) D σ H) := by
  constructor
  intro pins s σ H D I h
  have ok := I.ok
  refine wpAny_Try_except (wpAny_mono ((hb (wTwo X.K c1 c2 i ts D) (X.pn ++ pins) _ ?tk).run [] s σ H D (I.toTry _) h) ?_ fun e s1 he => he)
  case tk =>
    rintro u s' ⟨a, B, sI, pins', σ', H', cls, d, rfl, J', nb, up, sky, na, os, ag, ex, want⟩
    have J : Inv X pins σ' H' sI := J'.ofTry ok
    have hfr : X.A.frames = some (X.env :: X.outer) := by rw [ok.frames, hs]
    rw [show (X.tr (X.pn ++ pins) _).stack = X.env :: X.outer from hs] at sky
    show wpAny (model X.prog X.w) X.A (noteFrame (.ref a) X.env) _ _ _
    refine Sky.land Zc.steady hfr hf sky fun h3 fl3 up3 => ?_
    have J3 : Inv X pins σ' H' { s' with heap := h3 } := J.landed nb fl3.1 (up.trans up3) os ag
    obtain ⟨oe3, vs3, he3, hz3, hd3⟩ := fl3.there
    -- the exception is no frame
    have off : a ∉ frs (X.env :: X.outer) := fun hm => by
      obtain ⟨_, o', e', hnf⟩ := fl3.2.2.1.mem hm
      rw [he3] at e'
      cases e'
      exact hnf _ hd3
    have nL : a ≠ X.env.locals := fun z => off (List.mem_filterMap.mpr ⟨X.env, List.mem_cons_self, by rw [hf, z]⟩)
    have nF : a ∉ X.fs := fun hm => by
      obtain ⟨e, he, q⟩ := List.mem_filterMap.mp hm
      exact off (List.mem_filterMap.mpr ⟨e, List.mem_cons_of_mem _ he, q⟩)
    have S3 := J3.suite he3 hd3 na nL nF
    refine PySem.W.exc_clause_as ?_
    refine wpAny_Tuple (wpAny_items_cons (ld_glob (X := X.suite a ((a, oe3) :: (X.pn ++ pins))) S3 g1 m1 ?_ d1))
    refine wpAny_items_cons (ld_glob (X := X.suite a ((a, oe3) :: (X.pn ++ pins))) S3 g2 m2 ?_ d2)
    refine wpAny_items_nil ⟨by size_fits, ?_⟩
    have kp : ∀ q o, h3.get? q = some o → (h3.push { cls := .type "tuple", data := .seq [c1, c2].toArray }).get? q = some o := fun _ _ z => Heap.get?_push_of_some _ z
    have LT : PySem.W.Looks (model X.prog X.w) h3 (typeOf (.ref a)) cls := fun A Q E s k q => wpAny_typeOf_ref (k _ _ he3) (by rw [hz3.1]; exact q)
    refine ⟨true, PySem.W.exm_tup2 (J3.kIn.keeps kp) (LT.keeps kp) (Heap.get?_push_size h3 rfl) ex, ?_⟩
    rw [if_pos rfl]
    have up3' := (up.trans up3).trans (Heap.UpToSlots.of_keeps kp)
    refine HandSPX.lands_againZ (PySem.XG.fly_on fl3 kp) fun h4 fl4 up4 => ?_
    have J4 : Inv X pins σ' H' { s' with heap := h4 } := J.landed nb fl4.1 (up3'.trans up4) os ag
    obtain ⟨oe4, vs4, he4, hz4, hd4⟩ := fl4.there
    have S4 := J4.suite he4 hd4 na nL nF
    refine store_ok (X := X.suite a ((a, oe4) :: (X.pn ++ pins))) (v := .ref a) S4 hN hi (.inl hln) rfl (fun s5 S5 => ?_) (.inr hln)
    refine wpAny_mono ((hsu a oe4 cls d (X.pn ++ pins) hz4 ⟨_, hd4⟩).run [] s5 _ H' _ S5 (want a na (by rw [J.len]; exact (List.getElem?_eq_some_iff.mp hi).1))) (fun f s6 hsp => ?_) fun _ _ z => False.elim z
    have gone : ∀ {σ6 : St} {H6 : Hp} {Q : Shared → Prop}, Inv (X.suite a ((a, oe4) :: (X.pn ++ pins))) [] σ6 H6 s6 → (∀ s7, Inv X pins (σ6.set i none) H6 s7 → Q s7) →
        wpAny (model X.prog X.w) X.A (do bindName X.env n .none; unbindBehindTheSuite X.env n pos') (fun _ s7 => Q s7) X.xe s6 := fun S6 hq => gone_ok (S6.unsuite ok) hN hi hln hq
    cases f with
    | ret u =>
      obtain ⟨v6, σ6, H6, S6, r6, q6⟩ := hsp
      exact gone S6 fun s7 J7 => ⟨_, _, _, J7, r6, q6⟩
    | next =>
      obtain ⟨σ6, H6, S6, q6⟩ := hsp
      exact gone S6 fun s7 J7 => ⟨_, _, J7, q6⟩
    | brk =>
      obtain ⟨σ6, H6, S6, q6⟩ := hsp
      exact gone S6 fun s7 J7 => ⟨_, _, J7, q6⟩
    | cont =>
      obtain ⟨σ6, H6, S6, q6⟩ := hsp
      exact gone S6 fun s7 J7 => ⟨_, _, J7, q6⟩
  · intro f s1 hsp
    cases f with
    | next =>
      obtain ⟨σ', H', J', q⟩ := hsp
      exact wpAny_execs_nil ⟨σ', H', J'.ofTry ok, q⟩
    | ret u =>
      obtain ⟨v, σ', H', J', r, q⟩ := hsp
      exact ⟨v, σ', H', J'.ofTry ok, r, q⟩
    | brk =>
      obtain ⟨σ', H', J', q⟩ := hsp
      exact ⟨σ', H', J'.ofTry ok, q⟩
    | cont =>
      obtain ⟨σ', H', J', q⟩ := hsp
      exact ⟨σ', H', J'.ofTry ok, q⟩
end
end L2
/-! what the laws' proofs share about errors: their promises, the fields, a lambda called in a try -/
namespace Th
open PySem PySem.Spec PyProof.Rows L2
/-! ### what stays but for tables of code and exceptions being made -/
def Plain (o : HO) : Prop := (∀ φ, o ≠ .ext φ) ∧ ∀ ps, o ≠ .tbl ps
def KeepD (H H' : Hp) : Prop := ∀ b o, H b = some o → Plain o → H' b = some o
theorem KeepD.of {H H' : Hp} (s : Same H H') : KeepD H H' := fun b o e _ => s b o e
theorem KeepD.trans {H H1 H2 : Hp} (a : KeepD H H1) (b : KeepD H1 H2) : KeepD H H2 := fun c o e p => b c o (a c o e p) p
theorem KeepD.refl (H : Hp) : KeepD H H := fun _ _ e _ => e
theorem keepD_ext {H H' : Hp} (e : LamX.ExtN H H') : KeepD H H' := fun b o h p => e b o h p.2
theorem plain_lst (xs : List V) : Plain (.lst xs) := ⟨fun φ z => (by cases z), fun ps z => (by cases z)⟩
theorem plain_tup (xs : List V) : Plain (.tup xs) := ⟨fun φ z => (by cases z), fun ps z => (by cases z)⟩
theorem plain_frz (o : Obj) (u : HO) : Plain (.frz o u) := ⟨fun φ z => (by cases z), fun ps z => (by cases z)⟩
theorem plain_ins (C dx : Addr) (fs : List (Str × V)) : Plain (.ins C dx fs) := ⟨fun φ z => (by cases z), fun ps z => (by cases z)⟩
theorem plain_dK (kvs : List (Key × V)) : Plain (.dK kvs) := ⟨fun φ z => (by cases z), fun ps z => (by cases z)⟩
theorem plain_dT (kvs : List (List Key × V)) : Plain (.dT kvs) := ⟨fun φ z => (by cases z), fun ps z => (by cases z)⟩
theorem plain_set (S : Int → Bool) (n : Nat) : Plain (.set S n) := ⟨fun φ z => (by cases z), fun ps z => (by cases z)⟩
section
variable {K : PySem.W.Frag} {H H' : Hp}
theorem KeepD.l (e : KeepD H H') {a : Addr} {xs : List V} (h : SqL K H a xs) : SqL K H' a xs := by
  rcases h with (h | ⟨o, h⟩) | h
  · exact .inl (.inl (e _ _ h (plain_lst xs)))
  · exact .inl (.inr ⟨o, e _ _ h (plain_frz o _)⟩)
  · exact .inr h
theorem KeepD.t (e : KeepD H H') {a : Addr} {xs : List V} (h : SqT K H a xs) : SqT K H' a xs := by
  rcases h with (h | ⟨o, h⟩) | h
  · exact .inl (.inl (e _ _ h (plain_tup xs)))
  · exact .inl (.inr ⟨o, e _ _ h (plain_frz o _)⟩)
  · exact .inr h
theorem KeepD.ty (e : KeepD H H') {v : V} {t : Value} (h : TyX K H v t) : TyX K H' v t := by
  cases h with
  | byt b => exact .byt b
  | kList h c => exact .kList h c
  | kTuple h c => exact .kTuple h c
  | kDict h c => exact .kDict h c
  | set h => exact .set (e _ _ h (plain_set _ _))
  | fTuple h => exact .fTuple (e _ _ h (plain_frz _ _))
  | fDict h => exact .fDict (e _ _ h (plain_frz _ _))
  | base b =>
    refine .base ?_
    cases b with
    | non => exact .non
    | bl x => exact .bl x
    | int i => exact .int i
    | str x => exact .str x
    | flt x => exact .flt x
    | lst h => exact .lst (e _ _ h (plain_lst _))
    | frz h => exact .frz (e _ _ h (plain_frz _ _))
    | tup h => exact .tup (e _ _ h (plain_tup _))
    | dK h => exact .dK (e _ _ h (plain_dK _))
    | dT h => exact .dT (e _ _ h (plain_dT _))
    | ins h cl ha hn htk hm => exact .ins (e _ _ h (plain_ins _ _ _)) cl ha hn htk hm
mutual
theorem Da.keepD (e : KeepD H H') : ∀ (d : PyData) (v : V), Da K H v d → Da K H' v d
  | .none, _, h => by cases h; exact .non
  | .bool b, _, h => by cases h; exact .bl b
  | .int i, _, h => by cases h; exact .int i
  | .str x, _, h => by cases h; exact .str x
  | .list ds, _, h => by
    cases h with
    | lst hs ht ha => exact .lst (e.l hs) (e.ty ht) (DaAll.keepD e ds _ ha)
  | .tuple ds, _, h => by
    cases h with
    | tup hs ht ha => exact .tup (e.t hs) (e.ty ht) (DaAll.keepD e ds _ ha)
  | .dict _, _, h => by cases h
theorem DaAll.keepD (e : KeepD H H') : ∀ (ds : List PyData) (vs : List V), DaAll K H vs ds → DaAll K H' vs ds
  | [], _, h => by cases h; exact .nil
  | d :: ds, _, h => by
    cases h with
    | cons h1 h2 => exact .cons (Da.keepD e d _ h1) (DaAll.keepD e ds _ h2)
end
theorem Da.kd {v : V} {d : PyData} (h : Da K H v d) (e : KeepD H H') : Da K H' v d := Da.keepD e d v h
end
theorem KeepD.drw {D : DS} {H H' : Hp} (e : KeepD H H') (d : Drw D H) : Drw D H' := by
  obtain ⟨ne, sc, few, i, v, m, c, st, r⟩ := d
  exact ⟨ne, e _ _ sc (plain_lst _), few, i, v, m, c, e _ _ st (plain_lst _), r⟩
theorem KeepD.go {D : DS} {H H' : Hp} (d : Drw D H) (g : Go D H H') {a : Addr} {o : HO} (h : H a = some o) (ne : a ≠ D.p) : H' a = some o := g.old ne h
theorem Tabs.sm {T : List (Addr × Str)} {H H' : Hp} (t : LamX.Tabs T H) (s : Same H H') : LamX.Tabs T H' := t.ext fun b o e => s b o e
theorem Tabs.go {T : List (Addr × Str)} {D : DS} {H H' : Hp} (t : LamX.Tabs T H) (d : Drw D H) (g : Go D H H') : LamX.Tabs T H' := fun p hp => by
  obtain ⟨ps, h1, h2, h3⟩ := t p hp
  obtain ⟨_, _, _, i, v, m, c, st, _⟩ := d
  have n1 : p.1 ≠ D.p := fun z => by
    rw [z, st] at h1
    cases h1
  refine ⟨ps, g.old n1 h1, h2, fun pos cv hc => ?_⟩
  obtain ⟨c', e1, e2⟩ := h3 pos cv hc
  have n2 : c' ≠ D.p := fun z => by
    rw [z, st] at e2
    unfold LamX.CodeO at e2
    cases e2
  exact ⟨c', e1, g.old n2 e2⟩

/-! ### errors -/
/-- an error that flies: its class by name, its fields -/
structure IsExc (K : PySem.W.Frag) (mg : Str → Option Value) (code : Str) (fs : List (Str × V)) (cls : Value) (d : Option Addr) (H : Hp) : Prop where
  ex : ∃ C dd : Addr, cls = .ref C ∧ d = some dd ∧ XfC K C ∧ (∀ f ∈ fs.map (·.1), PySem.W.findIn K (.ref C) f = some none) ∧ H dd = some (.xd fs) ∧
    ∀ c1 c2, mg "FindError" = some (.ref c1) → mg "Missing" = some (.ref c2) → PySem.W.exmAny K cls [.ref c1, .ref c2] = some true
  code : fs.lookup ("code" : Str) = some (V.str code)
/-- an error class of the program; st: its __init__ -/
structure ErrC (K : PySem.W.Frag) (mg : Str → Option Value) (x : Str) (qual : Str) (st : Stmt) (ps : List Str) (fns : List Str) (C fI : Addr) (fd : FuncData) : Prop where
  m : mg x = some (.ref C)
  g : ExG K C
  xf : XfC K C
  nf : ∀ f ∈ fns, PySem.W.findIn K (.ref C) f = some none
  ini : PySem.W.findIn K (.ref C) "__init__" = some (some (.ref fI))
  tI : PySem.W.typeIn K (.ref fI) = some (.type "function")
  F : Fun K "__init__" qual st fI fd
  b : Binds K fd ps []
  ca : ∀ c1 c2, mg "FindError" = some (.ref c1) → mg "Missing" = some (.ref c2) → PySem.W.exmAny K (.ref C) [.ref c1, .ref c2] = some true
/-- __init__(self, v): self.fld = _copied(v); self.code = code -/
def spInit1 (K : PySem.W.Frag) (code fld : Str) (n : Nat) : Sp := fun vs H Q _ => ∃ (a C : Addr) (v : V) (d : PyData), vs = [.ref a, v] ∧ ExG K C ∧ PySem.W.findIn K (.ref C) fld = some none ∧ PySem.W.findIn K (.ref C) "code" = some none ∧ H a = some (exo a C none) ∧ Da K H v d ∧ LvN n d ∧
  ∀ (H1 : Hp) (v' : V) (dx : Addr), Same H H1 → Da K H1 v' d → H1 dx = none → dx ≠ a → Q .non (upd (upd (upd H1 dx (exd dx [(fld, v')])) a (exo a C (some dx))) dx (exd dx [("code", .str code), (fld, v')]))
theorem new1 {K : PySem.W.Frag} {mg : Str → Option Value} {x qual fld : Str} {st : Stmt} {ps fns : List Str} {C fI : Addr} {fd : FuncData} {n : Nat} {H : Hp} {v : V} {d : PyData} {W : XK} (E : ErrC K mg x qual st ps fns C fI fd) (h1 : fld ∈ fns) (h2 : ("code" : Str) ∈ fns) (hv : Da K H v d) (lv : LvN n d)
    (q : ∀ cls dd v' H', Same H H' → IsExc K mg x [("code", .str x), (fld, v')] cls dd H' → Da K H' v' d → W cls dd H') :
    ([v] : List V).length ≤ 1000 ∧ ∀ a, H a = none → spInit1 K x fld n (.ref a :: [v]) (upd H a (exo a C none)) (fun v H2 => v = .non ∧ ∃ (d : Addr) (fs : List (Str × V)), H2 a = some (exo a C (some d)) ∧ H2 d = some (exd d fs) ∧ H d = none ∧ W (.ref C) (some d) (upd (del H2 a) d (.xd fs))) (fun _ _ _ => False) := by
  refine ⟨by show 1 ≤ 1000; decide, fun a na => ⟨a, C, v, d, rfl, E.g, E.nf _ h1, E.nf _ h2, upd_same, hv.to (same_new na), lv, fun H1 v' dx s hv' nd ne => ?_⟩⟩
  have ea := s _ _ (upd_same (H := H) (a := a) (o := exo a C none))
  have nH : H dx = none := by
    cases e : H dx with
    | none => rfl
    | some o =>
      have := s dx o (by rw [upd_ne ne]; exact e)
      rw [nd] at this
      cases this
  refine ⟨rfl, dx, _, ?_, upd_same, nH, q _ _ v' _ (fun b o e => ?_) ⟨⟨C, dx, rfl, rfl, E.xf, fun f hf => ?_, upd_same, E.ca⟩, rfl⟩ ?_⟩
  · rw [upd_ne ne.symm, upd_same]
  · have nb : b ≠ a := fun z => by rw [z, na] at e; cases e
    have nb2 : b ≠ dx := fun z => by rw [z, nH] at e; cases e
    rw [upd_ne nb2, del_ne nb, upd_ne nb2, upd_ne nb, upd_ne nb2]
    exact s b o (by rw [upd_ne nb]; exact e)
  · rcases List.mem_cons.mp hf with e | m
    · rw [e]; exact E.nf _ h2
    · rw [List.mem_singleton.mp m]; exact E.nf _ h1
  · refine hv'.kd fun b o e p => ?_
    have nb : b ≠ a := fun z => by
      rw [z, ea] at e
      exact p.1 _ (Option.some.inj e).symm
    have nb2 : b ≠ dx := fun z => by rw [z, nd] at e; cases e
    rw [upd_ne nb2, del_ne nb, upd_ne nb2, upd_ne nb, upd_ne nb2]
    exact e
/-- what a def promises that may raise -/
def HasX (P : Program) (w : World) (K : PySem.W.Frag) (mg : Str → Option Value) (base : Heap) (x : Str) (st : Stmt) (k : Nat) (ps : List Str) (sp : Sp) : Prop :=
  ∃ (f : Addr) (fd : FuncData), FnOk P w K mg base (L2.CX P w) k f fd ps sp ∧ mg x = some (.ref f) ∧ PySem.W.keepIn K (.ref f) = true ∧ Binds K fd ps [] ∧ Fun K x x st f fd
def HasQ (P : Program) (w : World) (K : PySem.W.Frag) (mg : Str → Option Value) (base : Heap) (x : Str) (st : Stmt) (k : Nat) (ps : List Str) (sp : Addr × Obj → Sp) : Prop :=
  ∃ (f : Addr) (fd : FuncData), FnQ P w K mg base k f fd ps sp ∧ mg x = some (.ref f) ∧ PySem.W.keepIn K (.ref f) = true ∧ Binds K fd ps [] ∧ Fun K x x st f fd
def HasE (P : Program) (w : World) (K : PySem.W.Frag) (mg : Str → Option Value) (base : Heap) (x qual : Str) (st : Stmt) (ps fns : List Str) (k : Nat) (sp : Sp) : Prop :=
  ∃ (C fI : Addr) (fd : FuncData), ErrC K mg x qual st ps fns C fI fd ∧ FnOk P w K mg base CX0 k fI fd ps sp
theorem passF {X : Cx} : Passes (L2.CX X.prog X.w) X E0 := fun _ _ _ _ _ _ _ h => by
  obtain ⟨_, _, _, _, _, _, _, _, _, _, _, _, z⟩ := h
  exact z.elim
/-- what a try tells of an error: the word, its code, then its fields as Fl says -/
def TTry (K : PySem.W.Frag) (mg : Str → Option Value) (Fl : Str → List (Str × V) → List V → Prop) : (XK → Hp → VK → Prop) → Hp → VK → Prop := fun tl H Q =>
  tl (fun cls d H' => ∃ code fs ws, IsExc K mg code fs cls d H' ∧ Fl code fs ws ∧ ws.length ≤ 1000 ∧ ∀ r H'', Same H' H'' → H' r = none → H'' r = some (.tup (.str "no" :: .str code :: ws)) → Q (.ref r) H'')
    H fun v H1 => ([.str "told", v] : List V).length ≤ sizeLine ∧ ∀ r, H1 r = none → Q (.ref r) (upd H1 r (.tup [.str "told", v]))
/-- the fields of an error in hand, in a tuple -/
def spFields (K : PySem.W.Frag) (mg : Str → Option Value) (Fl : Str → List (Str × V) → List V → Prop) : Addr × Obj → Sp := fun p vs H Q _ => ∃ (C dd : Addr) (code : Str) (fs : List (Str × V)) (ws : List V), vs = [.ref p.1] ∧ PinX p C dd ∧ IsExc K mg code fs (.ref C) (some dd) H ∧ Fl code fs ws ∧ ws.length ≤ 1000 ∧
  ∀ r H', Same H H' → H r = none → H' r = some (.tup ws) → Q (.ref r) H'
end Th
namespace Th
open PySem PySem.Spec PyProof.Rows L2
/-! ### some objects hidden -/
open Classical in
noncomputable def hidS (S : Addr → Prop) (H : Hp) : Hp := fun b => if S b then none else H b
theorem hidS_in {S : Addr → Prop} {H : Hp} {b : Addr} (h : S b) : hidS S H b = none := if_pos h
theorem hidS_out {S : Addr → Prop} {H : Hp} {b : Addr} (h : ¬ S b) : hidS S H b = H b := if_neg h
theorem hidS_some {S : Addr → Prop} {H : Hp} {b : Addr} {o : HO} (h : hidS S H b = some o) : ¬ S b ∧ H b = some o := by
  by_cases z : S b
  · rw [hidS_in z] at h
    cases h
  · rw [hidS_out z] at h
    exact ⟨z, h⟩
theorem hidS_same {S : Addr → Prop} {H : Hp} : Same (hidS S H) H := fun _ _ h => (hidS_some h).2
theorem hidS_mono {S : Addr → Prop} {H H' : Hp} (s : Same H H') : Same (hidS S H) (hidS S H') := fun b o h => by
  obtain ⟨n, e⟩ := hidS_some h
  rw [hidS_out n]
  exact s b o e
/-- one more is hidden, which was not there -/
theorem hidS_more {S : Addr → Prop} {H H' : Hp} {L : Addr} (s : Same H H') (n : H L = none) : Same (hidS S H) (hidS (fun b => S b ∨ b = L) H') := fun b o h => by
  obtain ⟨nb, e⟩ := hidS_some h
  have nL : b ≠ L := fun z => by rw [z, n] at e; cases e
  rw [hidS_out (fun z => z.elim nb nL)]
  exact s b o e
theorem hidS_less {S : Addr → Prop} {H : Hp} {L : Addr} : Same (hidS (fun b => S b ∨ b = L) H) (hidS S H) := fun b o h => by
  obtain ⟨nb, e⟩ := hidS_some h
  rw [hidS_out fun z => nb (.inl z)]
  exact e
theorem hidS_upd {S : Addr → Prop} {H : Hp} {L : Addr} {o : HO} : hidS (fun b => S b ∨ b = L) (upd H L o) = hidS (fun b => S b ∨ b = L) H := by
  funext b
  by_cases z : S b ∨ b = L
  · rw [hidS_in z, hidS_in z]
  · rw [hidS_out z, hidS_out z, upd_ne fun e => z (.inr e)]
end Th
namespace Th
open PySem PySem.Spec PyProof.Rows L2
def tPinA (K : PySem.W.Frag) (i : Nat) (a : Addr) (cls : Value) (d : Option Addr) (n : Str) : TE := fun σ H Q => σ[i]? = some (some (.ref a)) ∧ ∃ (C dd : Addr) (fs : List (Str × V)) (v : V), cls = .ref C ∧ d = some dd ∧ XfC K C ∧ PySem.W.findIn K (.ref C) n = some none ∧ H dd = some (.xd fs) ∧ fs.lookup n = some v ∧ Q v H
def tFieldsA (K : PySem.W.Frag) (mg : Str → Option Value) (Fl : Str → List (Str × V) → List V → Prop) (i : Nat) (a : Addr) (cls : Value) (d : Option Addr) : TE := fun σ H Q => σ[i]? = some (some (.ref a)) ∧ ∃ (C dd : Addr) (code : Str) (fs : List (Str × V)) (ws : List V), cls = .ref C ∧ d = some dd ∧ IsExc K mg code fs (.ref C) (some dd) H ∧ Fl code fs ws ∧ ws.length ≤ 1000 ∧ ∀ r H', Same H H' → H r = none → H' r = some (.tup ws) → Q (.ref r) H'
section
variable {X : Cx} {a : Addr} {oe : Obj} {cls : Value} {d : Option Addr} {e : Expr} {n : Str} {i : Nat} {pos q : Pos}
/-- in the clause's suite: the caught error's field -/
theorem pe_pinA (hp : (a, oe) ∈ X.pn) (hz : Zc cls d oe) (hf : ∃ vs, oe.data = .fields vs) (he : PE X e (tVar i)) (hb : attributeBase e n X.env (eval e X.env) = eval e X.env := by rfl) :
    PE X (.Attribute e n pos) (tPinA X.K i a cls d n) := by
  constructor
  rintro pins s σ H Q I ⟨h0, C, dd, fs, v, rfl, rfl, T, nf, ed, l, hq⟩
  exact (pe_pinf hp he hb).run pins s σ H Q I ⟨_, h0, rfl, C, dd, fs, v, ⟨hz, hf⟩, T, nf, ed, l, hq⟩
/-- .. its fields, told by a def -/
theorem pe_fieldsA {Fl : Str → List (Str × V) → List V → Prop} {k : Nat} {f : Addr} {fd : FuncData} {ps : List Str} {x : Str} (hp : (a, oe) ∈ X.pn) (hz : Zc cls d oe) (hf : ∃ vs, oe.data = .fields vs) (F : FnQ X.prog X.w X.K X.mg X.base k f fd ps (spFields X.K X.mg Fl)) (hr : L2H.RoomH k X.A) (hg : Gl X x) (hm : X.mg x = some (.ref f)) (hk : PySem.W.keepIn X.K (.ref f) = true) (hb : Binds X.K fd ps [])
    (he : PA X [e] (tCons (tVar i) tNil)) (hdb : (x == ("__debug__" : Str)) = false := by decide) (hs : starEach [e] X.env = (false, eval e X.env) :: starEach [] X.env := by rfl) (hpl : (backTo pos (starEach [] X.env)).any (·.1) = false := by rfl) :
    PE X (.Call (.Name x q) [e] [] pos) (tFieldsA X.K X.mg Fl i a cls d) := by
  constructor
  rintro pins s σ H Q I ⟨h0, C, dd, code, fs, ws, rfl, rfl, E, fl, lw, hq⟩
  exact (pe_callQ (p := (a, oe)) hp F hr hg hm hk hb he hdb hs hpl).run pins s σ H Q I ⟨_, h0, C, dd, code, fs, ws, rfl, ⟨hz, hf⟩, E, fl, lw, hq⟩
end
end Th
namespace Th
open PySem PySem.Spec PyProof.Rows L2
/-- a def whose code object is known -/
theorem okC {P : Program} {w : World} {K : PySem.W.Frag} {mg : Str → Option Value} {base : Heap} {x qual : Str} {st : Stmt} {f c : Addr} {fd : FuncData} {N ps : List Str} {k : Nat} {sp : Sp} (F : Fun K x qual st f fd) (hc : fd.code = .ref c) (S : FnScope N ps (defScope st)) (len : ∀ vs H Q E, sp vs H Q E → vs.length = ps.length)
    (hbody : ∀ (A : Around) (outer : List Env) (s : Shared) (H : Hp) (vs : List V) (Q : VK) (E : XK), Room k (A.deeper (envOfC qual (defScope st) s.heap.objs.size f (.ref c))) → sp vs H Q E →
      ∃ t, PSs (cxOf CX0 P w K mg base N qual (defScope st) f (.ref c) A outer s H E).nox (defBody st) t ∧ t { nx := fun _ H' => Q .non H', rt := Q } (L2.start N vs) H) : FnOk P w K mg base CX0 (k + 1) f fd ps sp := by
  obtain ⟨oc, od, kV, doc, pm, an, cdv, ct, osl, rfl, lk, hcd⟩ := F.ex
  obtain rfl : cdv = .ref c := hc
  refine fn_of lk hcd S len fun A outer s H vs Q E hr hsp => ?_
  obtain ⟨t, h, q⟩ := hbody A outer s H vs Q E hr hsp
  exact ⟨t, h.nox, q⟩
/-- f(lambda: body), f the def that tries -/
theorem pe_try {X : Cx} {x a : Str} {st : Stmt} {g c P : Addr} {fdg : FuncData} {k : Nat} {Ng : List Str} {TT : (XK → Hp → VK → Prop) → Hp → VK → Prop} {params : Arguments} {body : Expr} {scope : Scope} {t : XK → TE} {p lpos pos : Pos} (Fg : Fun X.K x x st g fdg) (hm : X.mg x = some (.ref g)) (hb : Binds X.K fdg [a] []) (hg : Gl X x)
    (Sg : FnScope Ng [a] (defScope st)) (hNg : Ng[0]? = some a) (hva : Vis (defScope st) a) (hG : ∀ (cdg : Value), LamX.GivesTo X Ng x (defScope st) g cdg (defBody st) a (X.env.qual ++ "<lambda>") TT)
    (TB : LamX.TabB X.base X.mg c P) (hcode : X.env.code = .ref c) (hr : Room (k + 2) X.A) (L : LamX.LamS X.env.scope scope) (hdef : defaultsOf params X.env = ([], []))
    (hbind : ∀ (q : Str) (cl : List (Str × Addr)) (pm cv ctv : Value), bindArgs (PySem.W.kla_fn "<lambda>" q params body scope cl pm cv ctv) ⟨[], []⟩ = pure [])
    (hbody : ∀ (A : Around) (outer : List Env) (s : Shared) (H : Hp) (E : XK) (f c' : Addr), Room k (A.deeper (LamX.lamEnv X scope s.heap.objs.size f c')) → PE (LamX.lamCx X A outer s H E scope f c') body (t E))
    (hdb : (x == ("__debug__" : Str)) = false := by decide) (hd : (a == ("__debug__" : Str)) = false := by decide) (hcd : (a == ("__classdict__" : Str)) = false := by decide) :
    PE X (.Call (.Name x p) [.Lambda params body scope lpos] [] pos) (LamX.tLam [(P, X.env.qual ++ "<lambda>")] TT t) := by
  obtain ⟨oc, od, kV, doc, pm, an, cdv, ct, osl, rfl, lk, hco⟩ := Fg.ex
  exact LamX.pe_lamcall (T := [(P, X.env.qual ++ "<lambda>")]) hg hm Fg.kp lk hco hb Sg hNg hva (hG _) TB hcode (List.mem_singleton.mpr rfl) (fun p hp _ => by rw [List.mem_singleton.mp hp]) hr L hdef hbind hbody hdb hd hcd
end Th
/-! x in a tuple, x any datum -/
namespace L2
open PySem PySem.Spec PyProof.Rows
theorem hu65 {A : Around} {k : Nat} (hr : Room k A) : A.units + 65 < cLine := by
  have := hr.un
  omega
def rInT (K : PySem.W.Frag) (neg : Bool) : R2 := fun x y H Q => ∃ d ds, Dp K H x d ∧ Dp K H y (.tuple ds) ∧ SeqAt.shaped d = true ∧ SeqAt.shaped (.tuple ds) = true ∧ Q (.bl (if neg then !ds.any fun z => PyData.eqv z d else ds.any fun z => PyData.eqv z d)) H
section
variable {X : Cx}
theorem op_inT (hu : X.A.units + 65 < cLine) : OpR X (compareOp .In) (rInT X.K false) := by
  intro pins s σ H x y v u Q I rx ry h
  obtain ⟨d, ds, hd, he, sd, se, q⟩ := h
  obtain ⟨as, r1⟩ := Dp.reads I d x v hd rx
  obtain ⟨bs, r2⟩ := Dp.reads I (.tuple ds) y u he ry
  exact SeqAt.in_tuple_reads r2 r1 (SeqAt.canLay_of_shaped se) (SeqAt.canLay_of_shaped sd) (room_in_shaped sd hu) ⟨.bl _, H, I, rfl, q⟩
theorem op_notInT (hu : X.A.units + 65 < cLine) : OpR X (compareOp .NotIn) (rInT X.K true) := by
  intro pins s σ H x y v u Q I rx ry h
  obtain ⟨d, ds, hd, he, sd, se, q⟩ := h
  obtain ⟨as, r1⟩ := Dp.reads I d x v hd rx
  obtain ⟨bs, r2⟩ := Dp.reads I (.tuple ds) y u he ry
  exact SeqAt.notIn_tuple_reads r2 r1 (SeqAt.canLay_of_shaped se) (SeqAt.canLay_of_shaped sd) (room_in_shaped sd hu) ⟨.bl _, H, I, rfl, q⟩
end
end L2
namespace Th
open PySem PySem.Spec PyProof.Rows L2
/-- a datum is one of these texts -/
def inNm (d : PyData) (xs : List Str) : Bool := match d with
  | .str x => decide (x ∈ xs)
  | _ => false
theorem any_nm (d : PyData) (nd : tyD d ≠ "dict") : ∀ xs : List Str, ((xs.map PyData.str).any fun z => PyData.eqv z d) = inNm d xs
  | [] => by cases d <;> rfl
  | x :: r => by
    rw [List.map_cons, List.any_cons, any_nm d nd r]
    cases d with
    | dict kvs => exact absurd rfl nd
    | str y =>
      have e : PyData.eqv (.str x) (.str y) = decide (x = y) := by
        have e2 : (x == y) = decide (x = y) := by rw [Bool.eq_iff_iff, beq_iff_eq, decide_eq_true_eq]
        rw [← e2]
        simp [PyData.eqv]
      rw [e]
      show (decide (x = y) || decide (y ∈ r)) = decide (y ∈ x :: r)
      by_cases h : x = y
      · simp [h]
      · have h' : ¬ y = x := fun z => h z.symm
        simp [h, h']
    | none => simp [PyData.eqv, inNm]
    | bool b => simp [PyData.eqv, inNm]
    | int b => simp [PyData.eqv, inNm]
    | list b => simp [PyData.eqv, inNm]
    | tuple b => simp [PyData.eqv, inNm]
end Th
/-! own exceptions as values: made with any arguments, a field read, isinstance asked -/
namespace PySem
namespace HandSPX
open Builtin Builtin.ObjectAttr
section
variable {M : Model} {A : Around} {E : Value → Shared → Prop} {h : Heap} {g : Array GenState} {d : Drawn} {t : Nat} {os : OsState}
variable {nm q : Str} {C N : Addr} {bs bm bmB : List Value} {hdct : Bool} {sn : List Str} {sub : List Value} {ab : Bool} {col : Option Bool} {dd : Option Addr} {k0 k1 k2 k3 k5 : Option Value} {B newId initId : String}
theorem check_new_ownK (F : ExcBaseFacts B newId initId bmB) (hT : ∀ X : String, bm.contains (.type X) = bmB.contains (.type X)) {rest : List Value} {kw : List (Str × Value)} {Q : Unit → Shared → Prop}
    (hC : h.get? C = some (excClassObj nm q C N bs bm hdct sn sub ab col dd k0 k1 k2 k3 k5 newId)) (hq : Q () ⟨h, g, d, t, os⟩) : wpAny M A (checkBuiltinCall newId ⟨.ref C :: rest, kw⟩) Q E ⟨h, g, d, t, os⟩ := by
  have hcont : (Value.ref C :: bm).contains (.type B) = true := by rw [List.contains_cons, hT, F.hasB, Bool.or_true]
  have hstar := F.noStar
  simp only [checkBuiltinCall, F.newKind, F.newSplit, F.newRow]
  repeat (first | refine wpAny_loadPart_at hC ?_ | (refine wpAny_isSubtype_exc hC ?_; rw [hcont]) | refine wpAny_staticBase_exc hC ?_ | refine wpAny_madeBy_exc hC ?_ | simp only [bne_self_eq_false, Bool.false_eq_true, if_false] | wp_step)
  exact hq
end
section
variable {prog : Program} {w : World} {A : Around} {E : Value → Shared → Prop} {R : Result → Shared → Prop} {h : Heap} {g : Array GenState} {d : Drawn} {t : Nat} {os : OsState}
variable {nm q : Str} {C N : Addr} {bs bm bmB : List Value} {hdct : Bool} {sn : List Str} {sub : List Value} {ab : Bool} {col : Option Bool} {dd : Option Addr} {k0 k1 k2 k3 k5 : Option Value} {B newId initId : String}
theorem new_ownK (F : ExcBaseFacts B newId initId bmB) (hT : ∀ X : String, bm.contains (.type X) = bmB.contains (.type X)) {rest : List Value} {kw : List (Str × Value)}
    (hC : h.get? C = some (excClassObj nm q C N bs bm hdct sn sub ab col dd k0 k1 k2 k3 k5 newId))
    (hq : R (.ok (.ret (.ref (h.objs.size + 1)))) ⟨(h.push { cls := .type "tuple", data := .seq rest.toArray }).push
      { cls := .ref C, data := .fields #[.ref h.objs.size, .none, .none, .none, .bool false, .none] }, g, d, t, os⟩) (hrest : rest.length ≤ sizeLine) :
    codeAny (model prog w) A (.builtin newId ⟨.ref C :: rest, kw⟩) R ⟨h, g, d, t, os⟩ := by
  have hends := F.ends
  have hcB : (Value.ref C :: bm).contains (.type B) = true := by rw [List.contains_cons, hT, F.hasB, Bool.or_true]
  have hcA : (Value.ref C :: bm).contains (.type "AttributeError") = false := by rw [List.contains_cons, hT, F.noAttr]; rfl
  have hcN : (Value.ref C :: bm).contains (.type "NameError") = false := by rw [List.contains_cons, hT, F.noName]; rfl
  refine codeAny_builtinAt F.entry ?_
  unfold Builtin.«BaseException.__new__»
  refine wpAt_bind ?_
  show wpAt _ _ _ (stack >>= _) _ _ _
  refine wpAt_bind (wpAt_stack fun p below => wpAt_of_wpAny ?_)
  wp_walk
  refine wpAt_of_wpAny ?_
  rw [F.owner]
  repeat (first | with_reducible refine wpAny_madeHere_exc F.canon hC ?_ | with_reducible refine wpAny_loadPart_at hC ?_ | (with_reducible refine wpAny_isSubtype_exc hC ?_; first | rw [hcB] | rw [hcA] | rw [hcN]) | wp_step)
  show R _ _
  rw [Heap.size_push]
  exact hq
theorem type_call_ownK (F : ExcBaseFacts B newId initId bmB) (hT : ∀ X : String, bm.contains (.type X) = bmB.contains (.type X)) {rest : List Value} {kw : List (Str × Value)} {fI : Addr} {Q : Fin → Shared → Prop}
    (hC : h.get? C = some (excClassObj nm q C N bs bm hdct sn sub ab col dd k0 k1 k2 k3 k5 newId))
    (hi : W.Looks (model prog w) h (typeLookup (.ref C) "__init__") (some (.ref fI))) (hb : ∀ self, W.Looks (model prog w) h (bindSpecial (.ref fI) self) (.ref fI, [self])) (hrest : rest.length ≤ sizeLine)
    (hq : codeAny (model prog w) A (.call (.ref fI) ⟨.ref (h.objs.size + 1) :: rest, kw⟩)
      (fun r s' => match r with | .ok (.ret v) => v = .none ∧ Q (.done (.ret (.ref (h.objs.size + 1)))) s' | .ok _ => False | .error e => E e s')
      ⟨(h.push (W.kdv_tup rest)).push (excO C h.objs.size), g, d, t, os⟩) :
    wpAny (model prog w) A (Builtin.«type.__call__» ⟨.ref C :: rest, kw⟩) Q E ⟨h, g, d, t, os⟩ := by
  repeat (first | with_reducible refine wpAny_loadPart_at hC ?_ | with_reducible refine wpAny_madeBy_exc hC ?_ | wp_step)
  refine codeAny_call_builtin_code (Code.quiet_builtin _ F.quiet) (check_new_ownK F hT hC ?_)
  refine new_ownK F hT hC ?_ hrest
  show wpAny _ _ _ _ _ _
  have k : ∀ b o, h.get? b = some o → ((h.push (W.kdv_tup rest)).push (excO C h.objs.size)).get? b = some o := fun b o e => Heap.get?_push_of_some _ (Heap.get?_push_of_some _ e)
  have hC₁ := k _ _ hC
  have hget : ((h.push (W.kdv_tup rest)).push (excO C h.objs.size)).get? (h.objs.size + 1) = some (excO C h.objs.size) := by heap_get
  have hcC : (Value.ref C :: bm).contains (.ref C) = true := by simp
  have i1 := hi.keeps k
  have b1 := (hb (.ref (h.objs.size + 1))).keeps k
  unfold isInstance
  repeat (first | with_reducible refine wpAny_loadPart_at hget ?_ | (with_reducible refine wpAny_isSubtype_exc hC₁ ?_; rw [hcC]) | wp_step)
  show wpAny _ _ (typeLookup (.ref C) _) _ _ _
  refine i1.at ?_
  refine wpAny_holding (wpAny_bind (b1.at ?_))
  refine wpAny_bind (wpAny_call (codeAny_mono hq fun r s' z => ?_))
  rcases r with e | (v | _ | _ | _) <;> first | exact z | exact z.elim | skip
  obtain ⟨rfl, z⟩ := z
  first
    | exact wpAny_pure (wpAny_pure z)
    | (wp_walk; exact z)
theorem call_ownK (F : ExcBaseFacts B newId initId bmB) (hT : ∀ X : String, bm.contains (.type X) = bmB.contains (.type X)) {rest : List Value} {kw : List (Str × Value)} {fI : Addr}
    (hC : h.get? C = some (excClassObj nm q C N bs bm hdct sn sub ab col dd k0 k1 k2 k3 k5 newId))
    (hi : W.Looks (model prog w) h (typeLookup (.ref C) "__init__") (some (.ref fI))) (hb : ∀ self, W.Looks (model prog w) h (bindSpecial (.ref fI) self) (.ref fI, [self])) (hrest : rest.length ≤ sizeLine)
    (hq : codeAny (model prog w) (A.under (.builtin "type.__call__" ⟨.ref C :: rest, kw⟩)) (.call (.ref fI) ⟨.ref (h.objs.size + 1) :: rest, kw⟩) (W.InitBack (h.objs.size + 1) R)
      ⟨(h.push (W.kdv_tup rest)).push (excO C h.objs.size), g, d, t, os⟩) :
    codeAny (model prog w) A (.call (.ref C) ⟨rest, kw⟩) R ⟨h, g, d, t, os⟩ := by
  have f1 := tc_lookup
  have f2 := tc_bind (.ref C)
  have hTy : (⟨h, g, d, t, os⟩ : Shared).TypeIs (.ref C) "type" := ⟨_, hC, rfl⟩
  refine codeAny_of_tree ?_
  show wpAny _ _ (callAny (.ref C) _) _ _ _
  repeat (any_goals (first | assumption | with_reducible refine wpAny_loadPart_at hC ?_ | wp_step))
  refine ⟨rfl, ?_⟩
  refine codeAny_call_builtin_at (Code.quiet_builtin _ (by decide +kernel)) entry_typeCall (wpAny_check_type_call_sub hC (type_call_ownK F hT hC hi hb hrest ?_))
  refine codeAny_mono hq fun r s' z => ?_
  rcases r with e | (v | _ | _ | _) <;> exact z
end
end HandSPX
end PySem
namespace PySem.W
open PySem PySem.Spec PySem.Calls PyProof.Rows
section
variable {prog : Program} {w : World} {A : Around} {E : Value → Shared → Prop} {s : Shared} {K : Frag} {x D : Addr} {ox : Obj}
theorem findObj_dataV {C : Addr} {od : Option Obj} {name : Str} {a g : Value} (hc : (clsIn K C).isSome = true) (ha : findIn K (.ref C) name = some (some a)) (hg : specialIn K a "__get__" = some (some g)) (ht : takesIn K a = some true) : findObj K C od name = some (.bind g a) := by
  obtain ⟨cd, hc⟩ := Option.isSome_iff_exists.mp hc
  unfold findObj
  rw [hc, Option.bind_some, ha, Option.bind_some]
  simp [hg, ht]
theorem kin_classV {od : Option Obj} {Q : Option Value → Shared → Prop} (hga : findIn K (.ref D) "__getattribute__" = some (some (.builtin "BaseException.__getattribute__"))) (hgt : findIn K (.ref D) "__getattr__" = some none) (hsub : subIn K (.ref D) (.type "BaseException") = some true)
    (hdct : hasDictIn K D = true) (ha : findIn K (.ref D) "__class__" = some (some (.builtin "object.__class__")))
    (hn : specialIn K (.builtin "object.__class__") "__get__" = some (some (.builtin "getset_descriptor.__get__"))) (htk : takesIn K (.builtin "object.__class__") = some true) (hm : mroIn K D (.type "object") = some true)
    (X : K.In s.heap) (I : InstAt s.heap x ox D od) (h : Q (some (.ref D)) { s with toks := s.toks + 1 }) : wpAny (model prog w) A (getAttr? (.ref x) "__class__") Q E s := by
  have hf : findObj K D od "__class__" = some (.bind (.builtin "getset_descriptor.__get__") (.builtin "object.__class__")) := findObj_dataV (by obtain ⟨cd, hc, _⟩ := any_some hdct; rw [hc]; rfl) ha hn htk
  obtain ⟨hp, g, d, t, os⟩ := s
  have L0 := I.type (M := model prog w)
  have L1 := looks_findIn (M := model prog w) X hga
  have L2 := looks_findIn (M := model prog w) X hgt
  have L3 := looks_find (M := model prog w) X I hf
  have sub : Looks (model prog w) hp (isInstance (.ref x) (.type "BaseException")) true := L0.andThen (looks_subIn X hsub)
  have hx0 : (false && onTheHeap (Value.builtin "BaseException.__getattribute__")) = false := rfl
  have hx2 : (Value.builtin "BaseException.__getattribute__" == Value.builtin "object.__getattribute__") = false := by decide +kernel
  have hx1 : (onTheHeap (Value.ref D) && Value.builtin "BaseException.__getattribute__" == Value.builtin "object.__getattribute__") = false := by rw [hx2]; rfl
  unfold getAttr? getAttrBy? getAttrBy
  refine wpAny_bind (wpAny_mkText (wpAny_bind (wpAny_attempt (wpAny_holding (wpAny_bind (L0.at (wpAny_bind (L1.at ?_))))))))
  show wpAny _ _ (if (onTheHeap (Value.ref D) && Value.builtin "BaseException.__getattribute__" == Value.builtin "object.__getattribute__") = true then _ else _) _ _ _
  rw [hx1, if_neg Bool.false_ne_true]
  unfold getAttrByItsOwn hookBefore
  refine wpAny_bind ?_
  rw [if_pos (show onTheHeap (Value.ref D) = true from rfl)]
  refine L2.at ?_
  refine wpAny_bind (wpAny_attempt (wpAny_holding ?_))
  unfold callGetattribute
  rw [hx0, if_neg Bool.false_ne_true]
  unfold boundAndCalled
  rw [PySem.F.excAttr_ValueError.ga.bind (.ref x)]
  refine wpAny_bind (wpAny_pure ?_)
  show wpAny _ _ (call (.builtin "BaseException.__getattribute__") [.ref x, .str "__class__" t]) _ _ _
  refine wpAny_call (codeAny_call_builtin PySem.F.excAttr_ValueError.ga.plain PySem.F.entry_bexc_ga ?_)
  refine @check_slot (model prog w) _ _ ⟨hp, g, d, t + 1, os⟩ "BaseException.__getattribute__" "BaseException" "__getattribute__" (.ref x) [.str "__class__" t] [] _ (by decide +kernel) (by decide +kernel) sub (PySem.F.args_bexc_ga (.ref x) (.str "__class__" t)) ?_
  unfold Builtin.«object.__getattribute__»
  refine wpAny_bind (wpAny_of_eq (a := ((Value.ref x : Value), [Value.str "__class__" t])) (by first | rfl | (simp only [slotArgs]; rfl)) ?_)
  refine wpAny_bind (wpAny_pure (wpAny_bind (L0.at (wpAny_bind (L3.at ?_)))))
  show wpAny _ _ (holding [Value.builtin "object.__class__"] (call (.builtin "getset_descriptor.__get__") [.builtin "object.__class__", .ref x, .ref D]) >>= ret) _ _ _
  refine wpAny_bind (wpAny_holding (wpAny_call (class_get (s := ⟨hp, g, d, t + 1, os⟩) (ox := ox) (od := od) X I hm ?_)))
  refine wpAny_pure ?_
  show wpAny _ _ (handedOut (.ref D)) _ _ _
  rw [handedOut_of (v := .ref D) rfl]
  first
    | exact wpAny_pure (wpAny_pure h)
    | exact wpAny_pure h
    | exact wpAny_pure (wpAny_bind (wpAny_pure (wpAny_pure h)))
theorem handS_kitx_excV {od : Option Obj} (hga : findIn K (.ref D) "__getattribute__" = some (some (.builtin "BaseException.__getattribute__"))) (hgt : findIn K (.ref D) "__getattr__" = some none) (hsub : subIn K (.ref D) (.type "BaseException") = some true) (hdct : hasDictIn K D = true) (ha : findIn K (.ref D) "__class__" = some (some (.builtin "object.__class__")))
    (hn : specialIn K (.builtin "object.__class__") "__get__" = some (some (.builtin "getset_descriptor.__get__"))) (htk : takesIn K (.builtin "object.__class__") = some true) (hm : mroIn K D (.type "object") = some true) :
    KitX K (.ref x) (.ref D) (fun h => InstAt h x ox D od) where
  ty := fun _ _ _ I => I.type
  it := fun _ _ X _ => by
    obtain ⟨cdD, hcD, _⟩ := any_some hdct
    unfold clsIn at hcD
    split at hcD
    · rename_i c' d' cd' sl' ho
      intro A' Q' E' s' k q
      unfold isType loadHead
      exact wpAny_bind (wpAny_loadPart (k _ _ (X _ _ ho)) (wpAny_pure q))
    · cases hcD
  ne := fun h tp dd its n sl X htp => by
    obtain ⟨cdD, hcD, _⟩ := any_some hdct
    refine Bool.eq_false_iff.mpr fun q => ?_
    have e : D = tp := Value.ref.inj (beq_iff_eq.mp q)
    subst e
    unfold clsIn at hcD
    split at hcD
    · rename_i c' d' cd' sl' ho
      have z := (X _ _ ho).symm.trans htp
      cases z
    · cases hcD
  ca := fun X I k => kin_classV hga hgt hsub hdct ha hn htk hm X I k
end
end PySem.W
namespace L2
open PySem PySem.Spec PyProof.Rows
section
variable {X : Cx} {pins : List (Addr × Obj)} {σ : St} {H H1 : Hp} {s1 : Shared} {Q : VK} {C fI : Addr} {k : Nat} {fd : FuncData} {ps : List Str} {sp : Sp}
/-- an own exception is made: it stands, with its fields -/
theorem new_core {us us' : List Value} {kw : List (Str × Value)} {vs : List V} (T : ExG X.K C) (iC : PySem.W.findIn X.K (.ref C) "__init__" = some (some (.ref fI))) (tI : PySem.W.typeIn X.K (.ref fI) = some (.type "function"))
    (F1 : FnOk X.prog X.w X.K X.mg X.base CX0 k fI fd ps sp) (hr : Room (k + 1) X.A) (I1 : Inv X pins σ H1 s1) (hb : ∀ (s : Shared) (self : Value), X.K.In s.heap → (Value.ref 0 :: us').length = ps.length → BindsTo s fd ⟨self :: us, kw⟩ (ps.zip (self :: us'))) (r1 : Vals vs us')
    (want : us.length ≤ 1000 ∧ ∀ a, H1 a = none → sp (.ref a :: vs) (upd H1 a (exo a C none)) (fun v H2 => v = .non ∧ Q (.ref a) H2) E0) : wpAny (model X.prog X.w) X.A (call (.ref C) us kw) (EP X pins σ Q) X.xe s1 := by
  obtain ⟨hz, q1⟩ := want
  obtain ⟨B, newId, initId, bmB, FB, SF, ini, ov⟩ := T.over
  obtain ⟨nm, N, qn, bs, bm, hdct, sn, sub, ab, col, dd, k0, k1, k2, k3, k5, hC, hT⟩ := PySem.W.excInit_of I1.kIn ini
  obtain ⟨hp, g, dr, tk, os⟩ := s1
  have up1 : hp.objs.size ≤ (hp.objs.size + 1) := Nat.le_succ _
  have fr : H1 (hp.objs.size + 1) = none := I1.hok.fresh up1
  have got : ((hp.push (PySem.W.kdv_tup us)).push (PySem.HandSPX.excO C hp.objs.size)).get? (hp.objs.size + 1) = some (PySem.HandSPX.excO C hp.objs.size) := by heap_get
  have two : ∀ b o, hp.get? b = some o → ((hp.push (PySem.W.kdv_tup us)).push (PySem.HandSPX.excO C hp.objs.size)).get? b = some o := fun b o q => Heap.get?_push_of_some _ (Heap.get?_push_of_some _ q)
  have I2 := I1.laid (t' := tk) (a := (hp.objs.size + 1)) (o := exo (hp.objs.size + 1) C none) (h' := (hp.push (PySem.W.kdv_tup us)).push (PySem.HandSPX.excO C hp.objs.size)) two up1 (exo_ok got)
  have want := q1 (hp.objs.size + 1) fr
  have r2 : Vals (V.ref (hp.objs.size + 1) :: vs) (Value.ref (hp.objs.size + 1) :: us') := .cons rfl r1
  have len : (Value.ref (hp.objs.size + 1) :: us').length = ps.length := r2.length.symm.trans (F1.len _ _ _ _ want)
  have short : us.length ≤ sizeLine := by
    rw [sizeLine_eq]
    omega
  have hbb := hb _ (Value.ref (hp.objs.size + 1)) I2.kIn len
  have run := F1.run _ X.stack _ _ ⟨Value.ref (hp.objs.size + 1) :: us, kw⟩ (Value.ref (hp.objs.size + 1) :: us') _ _ E0 (hr.make C us kw) (I2.env0.make C us kw) hbb r2 want
  refine wpAny_call (PySem.HandSPX.call_ownK FB hT hC (PySem.W.looks_findIn I1.kIn iC) (fun self => PySem.W.bind_fn I1.kIn self tI) short (codeAny_mono run fun r s' z => ?_))
  cases r with
  | error er => exact z.elim
  | ok fl =>
    cases fl with
    | next => exact z.elim
    | brk => exact z.elim
    | cont => exact z.elim
    | ret u =>
      obtain ⟨v, H', I3, rv, ev, q⟩ := I2.after z
      subst ev
      exact ⟨rv, .ref (hp.objs.size + 1), H', I3, rfl, q⟩
/-- C(e, ..) as a value -/
def tNewV (C : Addr) (sp : Sp) (ta : TA) : TE := fun σ H Q => ta σ H fun vs H1 => vs.length ≤ 1000 ∧ ∀ a, H1 a = none → sp (.ref a :: vs) (upd H1 a (exo a C none)) (fun v H2 => v = .non ∧ Q (.ref a) H2) E0
theorem pe_newV {x : Str} {e : Expr} {es : List Expr} {ta : TA} {p pos : Pos} (T : ExG X.K C) (iC : PySem.W.findIn X.K (.ref C) "__init__" = some (some (.ref fI))) (tI : PySem.W.typeIn X.K (.ref fI) = some (.type "function"))
    (F1 : FnOk X.prog X.w X.K X.mg X.base CX0 k fI fd ps sp) (hr : Room (k + 1) X.A) (hb : Binds X.K fd ps []) (hg : Gl X x) (hm : X.mg x = some (.ref C)) (ha : PA X (e :: es) ta)
    (hdb : (x == ("__debug__" : Str)) = false := by decide) (he : starEach (e :: es) X.env = (false, eval e X.env) :: starEach es X.env := by rfl) (hpl : (backTo pos (starEach es X.env)).any (·.1) = false := by rfl) :
    PE X (.Call (.Name x p) (e :: es) [] pos) (tNewV C sp ta) := by
  constructor
  intro pins s σ H Q I h
  refine wpAny_Call_Name_kw (ld_glob I hg hm ?_ hdb)
  refine PySem.W.callWith_K (h₀ := X.base) I.ok.mod.kin T.kC (thn (ha.run pos pins s σ H _ I h) fun us s1 hu => ?_) he hpl
  obtain ⟨vs, H1, I1, r1, hz, q1⟩ := hu
  refine ⟨I1.kIn, new_core (us' := us) T iC tI F1 hr I1 (fun s self kin hl => ?_) r1 ⟨by show us.length ≤ 1000; rw [← Paired.length r1]; exact hz, q1⟩⟩
  have := hb s (self :: us) kin (by rw [List.append_nil]; exact hl)
  rw [List.append_nil] at this
  exact this
theorem pe_newV0 {x : Str} {p pos : Pos} (T : ExG X.K C) (iC : PySem.W.findIn X.K (.ref C) "__init__" = some (some (.ref fI))) (tI : PySem.W.typeIn X.K (.ref fI) = some (.type "function"))
    (F1 : FnOk X.prog X.w X.K X.mg X.base CX0 k fI fd ps sp) (hr : Room (k + 1) X.A) (hb : Binds X.K fd ps []) (hg : Gl X x) (hm : X.mg x = some (.ref C))
    (hdb : (x == ("__debug__" : Str)) = false := by decide) :
    PE X (.Call (.Name x p) [] [] pos) (tNewV C sp tNil) := by
  constructor
  intro pins s σ H Q I h
  refine wpAny_Call_Name_kw (ld_glob I hg hm ?_ hdb)
  refine PySem.W.callWith_K0 I.kIn T.kC ?_
  exact new_core (us' := []) (vs := []) T iC tI F1 hr I (fun s self kin hl => by
    have := hb s [self] kin (by rw [List.append_nil]; exact hl)
    rw [List.append_nil] at this
    exact this) .nil ⟨Nat.zero_le _, h.2⟩
/-- C(k = e, ..) as a value -/
theorem pe_newVK {x : Str} {kws : List Keyword} {ks : List Str} {tk : TA} {p pos : Pos} {g : List Value → List Value → List Value} {gV : List V → List V → List V} (T : ExG X.K C) (iC : PySem.W.findIn X.K (.ref C) "__init__" = some (some (.ref fI))) (tI : PySem.W.typeIn X.K (.ref fI) = some (.type "function"))
    (F1 : FnOk X.prog X.w X.K X.mg X.base CX0 k fI fd ps sp) (hr : Room (k + 1) X.A) (hb : ∀ (s : Shared) (self : Value) (ws : List Value), X.K.In s.heap → (Value.ref 0 :: g [] ws).length = ps.length → BindsTo s fd ⟨[self], ks.zip ws⟩ (ps.zip (self :: g [] ws)))
    (hrel : ∀ {vs : List V} {us : List Value} {zs : List V} {ws : List Value}, Vals vs us → Vals zs ws → Vals (gV vs zs) (g us ws)) (hg : Gl X x) (hm : X.mg x = some (.ref C))
    (hkw : PK X kws tk) (hall : (backToKw pos (keywordEach kws X.env)).all (·.1.isSome) = true := by rfl) (hks : (backToKw pos (keywordEach kws X.env)).filterMap (·.1) = ks := by rfl)
    (hdb : (x == ("__debug__" : Str)) = false := by decide) (hpl : ((backTo pos (starEach [] X.env)).any (·.1) || (backToKw pos (keywordEach kws X.env)).any (·.1.isNone)) = false := by rfl) :
    PE X (.Call (.Name x p) [] kws pos) (tNewV C sp fun σ H Q => tk σ H fun zs H1 => Q (gV [] zs) H1) := by
  constructor
  intro pins s σ H Q I h
  refine wpAny_Call_Name_kw (ld_glob I hg hm ?_ hdb)
  refine PySem.W.callWith_KW0 (h₀ := X.base) I.ok.mod.kin T.kC hall ?_ hpl
  refine thn (hkw.run pos pins s σ H _ I h) fun ws s2 ⟨zs, H2, I2, rz, q2⟩ => ⟨I2.kIn, ?_⟩
  rw [hks]
  exact new_core (us := []) (us' := g [] ws) T iC tI F1 hr I2 (fun s self kin hl => hb s self ws kin hl) (hrel .nil rz) ⟨Nat.zero_le _, q2.2⟩
/-- e.f, e an own exception -/
def tXfV (K : PySem.W.Frag) (f : Str) (te : TE) : TE := fun σ H Q => te σ H fun x H1 => ∃ (a C dd : Addr) (fs : List (Str × V)) (v : V), x = .ref a ∧ H1 a = some (exo a C (some dd)) ∧ H1 dd = some (exd dd fs) ∧ XfC K C ∧ PySem.W.findIn K (.ref C) f = some none ∧ fs.lookup f = some v ∧ Q v H1
theorem pe_xfV {e : Expr} {te : TE} {pos : Pos} {n : Str} (he : PE X e te) (hb : attributeBase e n X.env (eval e X.env) = eval e X.env := by rfl) : PE X (.Attribute e n pos) (tXfV X.K n te) := by
  constructor
  intro pins s σ H Q I h
  refine attr_of hb (thn (he.run pins s σ H _ I h) fun u s1 hu => ?_)
  obtain ⟨x, H1, I1, rx, a, C, dd, fs, v, rfl, ea, ed, T, nf, l, q⟩ := hu
  obtain rfl : u = Value.ref a := rx
  obtain ⟨t1, ho⟩ := exo_at I1.hok ea
  obtain ⟨mA, hns, rel⟩ := exd_at I1.hok ed
  obtain ⟨od, hod, hl⟩ := lookIn_ns hns
  obtain ⟨w, hw, rw⟩ := RelO.some_of (v := v) (o := mA n) (by rw [← l]; exact rel n)
  have J : PySem.W.InstAt s1.heap a _ C (some od) := ⟨ho, rfl, rfl, hod⟩
  exact HandSPX.exc_get I1.kIn J T.ga T.gg T.exC (PySem.W.findObj_own T.hdC nf rfl (by rw [hl, hw])) (handed_of rw) ⟨v, H1, I1.tok _, rw, q⟩
end
/-- isinstance(e, c), e an own exception -/
def rIsV (K : PySem.W.Frag) : List V → Hp → VK → Prop := fun xs H Q => ∃ (a C : Addr) (d : Option Addr) (c : V) (cv : Value) (b : Bool), xs = [.ref a, c] ∧ (∃ dd fs, d = some dd ∧ H dd = some (exd dd fs)) ∧ H a = some (exo a C d) ∧ ExcC K C ∧ (∀ u, RelV c u → u = cv) ∧ PySem.W.kitOne K (.ref C) cv = some b ∧ Q (.bl b) H
theorem call_isV {X : Cx} : CallR X (.builtin "isinstance") (rIsV X.K) := by
  intro pins s σ H xs us Q I r h
  obtain ⟨a, D, d, c, cv, b, rfl, ⟨dd, fs, rfl, ed⟩, ea, C, hcv, e, q⟩ := h
  cases r with
  | cons rx rr =>
    cases rr with
    | cons rt rr =>
      cases rr
      cases rx
      have ec := hcv _ rt
      subst ec
      obtain ⟨t1, ho⟩ := exo_at I.hok ea
      obtain ⟨mA, hns, rel⟩ := exd_at I.hok ed
      obtain ⟨od, hod, hl⟩ := lookIn_ns hns
      have J : PySem.W.InstAt s.heap a _ D (some od) := ⟨ho, rfl, rfl, hod⟩
      exact PySem.W.kia_one (PySem.W.handS_kitx_excV C.hg C.hk C.hs C.hd C.ha C.hn C.ht C.hm) I.kIn J e (fun z => nomatch z) fun tk => ⟨.bl b, H, I.kept (t' := tk) fun _ _ z => z, rfl, q⟩
end L2
namespace L2
open PySem PySem.Spec PyProof.Rows L2H
/-! ### try: body, except (x1, x2) as n: suite; nothing else flies -/

def wOne (K : PySem.W.Frag) (c1 : Value) (i : Nat) (ts : Addr → Value → Option Addr → TS) (D : Ends) : WX := fun cls d σ H => PySem.W.exmOne K cls c1 = some true ∧
  ∀ a, H a = none → i < σ.length → ts a cls d { nx := fun σ' H' => D.nx (σ'.set i none) H', rt := D.rt, bk := fun σ' H' => D.bk (σ'.set i none) H', ct := fun σ' H' => D.ct (σ'.set i none) H' } (σ.set i (some (.ref a))) H
section
variable {X : Cx} {x1 n : Str} {c1 : Value} {i : Nat} {body suite : List Stmt} {b₀ : Stmt} {q1 pos pos' : Pos} {tb : WX → TS} {ts : Addr → Value → Option Addr → TS}
theorem ps_try_one (hs : X.stack = X.env :: X.outer) (hf : X.env.frame = some X.env.locals) (hN : X.N.Nodup) (hi : X.N[i]? = some n) (hln : X.env.kindOf n = some .local)
    (g1 : Gl X x1) (d1 : (x1 == ("__debug__" : Str)) = false) (m1 : X.mg x1 = some c1)
    (hb : ∀ (W : WX) (pn : List (Addr × Obj)) (xe : Value → Shared → Prop), Takes (X.tr pn xe) W → PSs (X.tr pn xe) body (tb W))
    (hsu : ∀ (a : Addr) (oe : Obj) (cls : Value) (d : Option Addr) (pn : List (Addr × Obj)), Zc cls d oe → (∃ vs, oe.data = .fields vs) → PSs (X.suite a ((a, oe) :: pn)) (b₀ :: suite) (ts a cls d)) :
    PS X (.Try body [.ExceptHandler (some (.Name x1 q1)) (some n) (b₀ :: suite) pos'] [] [] pos) (fun D σ H => tb (wOne X.K c1 i ts D) D σ H) := by
  constructor
  intro pins s σ H D I h
  have ok := I.ok
  refine wpAny_Try_except (wpAny_mono ((hb (wOne X.K c1 i ts D) (X.pn ++ pins) _ ?tk).run [] s σ H D (I.toTry _) h) ?_ fun e s1 he => he)
  case tk =>
    rintro u s' ⟨a, B, sI, pins', σ', H', cls, d, rfl, J', nb, up, sky, na, os, ag, ex, want⟩
    have J : Inv X pins σ' H' sI := J'.ofTry ok
    have hfr : X.A.frames = some (X.env :: X.outer) := by rw [ok.frames, hs]
    rw [show (X.tr (X.pn ++ pins) _).stack = X.env :: X.outer from hs] at sky
    show wpAny (model X.prog X.w) X.A (noteFrame (.ref a) X.env) _ _ _
    refine Sky.land Zc.steady hfr hf sky fun h3 fl3 up3 => ?_
    have J3 : Inv X pins σ' H' { s' with heap := h3 } := J.landed nb fl3.1 (up.trans up3) os ag
    obtain ⟨oe3, vs3, he3, hz3, hd3⟩ := fl3.there
    -- the exception is no frame
    have off : a ∉ frs (X.env :: X.outer) := fun hm => by
      obtain ⟨_, o', e', hnf⟩ := fl3.2.2.1.mem hm
      rw [he3] at e'
      cases e'
      exact hnf _ hd3
    have nL : a ≠ X.env.locals := fun z => off (List.mem_filterMap.mpr ⟨X.env, List.mem_cons_self, by rw [hf, z]⟩)
    have nF : a ∉ X.fs := fun hm => by
      obtain ⟨e, he, q⟩ := List.mem_filterMap.mp hm
      exact off (List.mem_filterMap.mpr ⟨e, List.mem_cons_of_mem _ he, q⟩)
    have S3 := J3.suite he3 hd3 na nL nF
    refine PySem.W.exc_clause_as ?_
    refine ld_glob (X := X.suite a ((a, oe3) :: (X.pn ++ pins))) S3 g1 m1 ?_ d1
    have kp : ∀ q o, h3.get? q = some o → h3.get? q = some o := fun _ _ z => z
    have LT : PySem.W.Looks (model X.prog X.w) h3 (typeOf (.ref a)) cls := fun A Q E s k q => wpAny_typeOf_ref (k _ _ he3) (by rw [hz3.1]; exact q)
    refine ⟨true, PySem.W.exm_one (J3.kIn.keeps kp) (LT.keeps kp) ex, ?_⟩
    rw [if_pos rfl]
    have up3' := (up.trans up3).trans (Heap.UpToSlots.of_keeps kp)
    refine HandSPX.lands_againZ (PySem.XG.fly_on fl3 kp) fun h4 fl4 up4 => ?_
    have J4 : Inv X pins σ' H' { s' with heap := h4 } := J.landed nb fl4.1 (up3'.trans up4) os ag
    obtain ⟨oe4, vs4, he4, hz4, hd4⟩ := fl4.there
    have S4 := J4.suite he4 hd4 na nL nF
    refine store_ok (X := X.suite a ((a, oe4) :: (X.pn ++ pins))) (v := .ref a) S4 hN hi (.inl hln) rfl (fun s5 S5 => ?_) (.inr hln)
    refine wpAny_mono ((hsu a oe4 cls d (X.pn ++ pins) hz4 ⟨_, hd4⟩).run [] s5 _ H' _ S5 (want a na (by rw [J.len]; exact (List.getElem?_eq_some_iff.mp hi).1))) (fun f s6 hsp => ?_) fun _ _ z => False.elim z
    have gone : ∀ {σ6 : St} {H6 : Hp} {Q : Shared → Prop}, Inv (X.suite a ((a, oe4) :: (X.pn ++ pins))) [] σ6 H6 s6 → (∀ s7, Inv X pins (σ6.set i none) H6 s7 → Q s7) →
        wpAny (model X.prog X.w) X.A (do bindName X.env n .none; unbindBehindTheSuite X.env n pos') (fun _ s7 => Q s7) X.xe s6 := fun S6 hq => gone_ok (S6.unsuite ok) hN hi hln hq
    cases f with
    | ret u =>
      obtain ⟨v6, σ6, H6, S6, r6, q6⟩ := hsp
      exact gone S6 fun s7 J7 => ⟨_, _, _, J7, r6, q6⟩
    | next =>
      obtain ⟨σ6, H6, S6, q6⟩ := hsp
      exact gone S6 fun s7 J7 => ⟨_, _, J7, q6⟩
    | brk =>
      obtain ⟨σ6, H6, S6, q6⟩ := hsp
      exact gone S6 fun s7 J7 => ⟨_, _, J7, q6⟩
    | cont =>
      obtain ⟨σ6, H6, S6, q6⟩ := hsp
      exact gone S6 fun s7 J7 => ⟨_, _, J7, q6⟩
  · intro f s1 hsp
    cases f with
    | next =>
      obtain ⟨σ', H', J', q⟩ := hsp
      exact wpAny_execs_nil ⟨σ', H', J'.ofTry ok, q⟩
    | ret u =>
      obtain ⟨v, σ', H', J', r, q⟩ := hsp
      exact ⟨v, σ', H', J'.ofTry ok, r, q⟩
    | brk =>
      obtain ⟨σ', H', J', q⟩ := hsp
      exact ⟨σ', H', J'.ofTry ok, q⟩
    | cont =>
      obtain ⟨σ', H', J', q⟩ := hsp
      exact ⟨σ', H', J'.ofTry ok, q⟩
end
end L2
namespace Th
open PySem PySem.Spec PyProof.Rows L2
/-- an error class of the program, whatever catches it; st: its __init__ -/
structure ErrC0 (K : PySem.W.Frag) (mg : Str → Option Value) (x : Str) (qual : Str) (st : Stmt) (ps : List Str) (fns : List Str) (C fI : Addr) (fd : FuncData) : Prop where
  m : mg x = some (.ref C)
  g : ExG K C
  xf : XfC K C
  nf : ∀ f ∈ fns, PySem.W.findIn K (.ref C) f = some none
  ini : PySem.W.findIn K (.ref C) "__init__" = some (some (.ref fI))
  tI : PySem.W.typeIn K (.ref fI) = some (.type "function")
  F : Fun K "__init__" qual st fI fd
  b : Binds K fd ps []
def HasE0 (P : Program) (w : World) (K : PySem.W.Frag) (mg : Str → Option Value) (base : Heap) (x qual : Str) (st : Stmt) (ps fns : List Str) (k : Nat) (sp : Sp) : Prop :=
  ∃ (C fI : Addr) (fd : FuncData), ErrC0 K mg x qual st ps fns C fI fd ∧ FnOk P w K mg base CX0 k fI fd ps sp
theorem keepD_hidS {H H' : Hp} {S : Addr → Prop} (e : KeepD H H') : KeepD (hidS S H) (hidS S H') := fun b o h pl => by
  by_cases z : S b
  · rw [hidS_in z] at h; cases h
  · rw [hidS_out z] at h ⊢
    exact e b o h pl
end Th
namespace Th
open PySem PySem.Spec PyProof.Rows L2
theorem cs_in {mg : Str → Option Value} {cs : List (Str × Addr)} {es : List Str} (h : ∀ p ∈ cs, mg p.1 = some (.ref p.2)) (e : cs.map (·.1) = es) {n : Str} {C : Addr} (hn : n ∈ es) (hm : mg n = some (.ref C)) : (n, C) ∈ cs := by
  rw [← e] at hn
  obtain ⟨p, hp, rfl⟩ := List.mem_map.mp hn
  have z := (h p hp).symm.trans hm
  cases z
  exact hp
theorem kit_use {K : PySem.W.Frag} {mg : Str → Option Value} {cs : List (Str × Addr)} {es : List Str} (h : ∀ p ∈ cs, mg p.1 = some (.ref p.2)) (e : cs.map (·.1) = es) (x : (cs.all fun p => cs.all fun q => PySem.W.kitOne K (.ref p.2) (.ref q.2) == some (decide (p.1 = q.1))) = true)
    (n m : Str) (Cn Cm : Addr) (hn : n ∈ es) (hm : m ∈ es) (h1 : mg n = some (.ref Cn)) (h2 : mg m = some (.ref Cm)) : PySem.W.kitOne K (.ref Cn) (.ref Cm) = some (decide (n = m)) :=
  eq_of_beq (List.all_eq_true.mp (List.all_eq_true.mp x _ (cs_in h e hn h1)) _ (cs_in h e hm h2))
theorem kit_to {K : PySem.W.Frag} {mg : Str → Option Value} {cs : List (Str × Addr)} {es : List Str} {t : Value} {f : Str → Bool} (h : ∀ p ∈ cs, mg p.1 = some (.ref p.2)) (e : cs.map (·.1) = es) (x : (cs.all fun p => PySem.W.kitOne K (.ref p.2) t == some (f p.1)) = true)
    (n : Str) (C : Addr) (hn : n ∈ es) (h1 : mg n = some (.ref C)) : PySem.W.kitOne K (.ref C) t = some (f n) := eq_of_beq (List.all_eq_true.mp x _ (cs_in h e hn h1))
theorem excB_ok {K : PySem.W.Frag} {D : Addr} (h : excB K D = true) : ExcC K D := by
  unfold excB at h
  simp only [Bool.and_eq_true, decide_eq_true_eq] at h
  obtain ⟨h1, h2, h3, h4, h5, h6, h7, h8⟩ := h
  exact ⟨h1, h2, h3, h4, h5, h6, h7, h8⟩
end Th
namespace Th
open PySem PySem.Spec PyProof.Rows L2
end Th
namespace Th
open PySem PySem.Spec PyProof.Rows L2
theorem sc_l_start : FnScope ["_law_script", "_law_own", "_law_mixed", "_law_cell"] ["_law_script", "_law_own"] (defScope s_l_start) := ⟨rfl, rfl, rfl, by decide +kernel, rfl, by decide +kernel, by decide +kernel⟩
/-- the list that draws is made -/
def spStart (K : PySem.W.Frag) : Sp := fun vs H Q _ => ∃ (a : Addr) (ns : List Int) (own : Int), vs = [.ref a, .int own] ∧ SqL K H a (ns.map V.int) ∧ ns.length ≤ 63 ∧ 0 ≤ own ∧ own < 2147483563 ∧
  ∀ H' (D : DS), Same H H' → H D.p = none → H D.l = none → Drw D H' → Q (.ref D.p) H'
section
variable {P : Program} {w : World} {K : PySem.W.Frag} {mg : Str → Option Value} {base : Heap} {CB : Addr}
theorem has_l_start (Z : Zs mg) (A : At K mg "_law_start" s_l_start ["_law_script", "_law_own"]) : Has P w K mg base "_law_start" s_l_start 1 ["_law_script", "_law_own"] (spStart K) := by
  obtain ⟨f, fd, F, mg1, bd⟩ := A
  refine ⟨f, fd, ?_, mg1, F.kp, bd, F⟩
  refine F.ok sc_l_start (fun vs H Q E h => ?_) (fun cdv A outer s H vs Q E hr h => ?_)
  · obtain ⟨a, ns, own, rfl, _⟩ := h
    rfl
  · obtain ⟨a, ns, own, rfl, hS, hlen, ho0, ho1, q⟩ := h
    refine ⟨_, (pss_cons (ps_set (i := 2) sc_l_start.nd rfl (Or.inl rfl) (pv 1)) (pss_cons (ps_for PassesOwn.never rfl (pi_list (pe_slice sl_list (pv 0) po_none (po_some pe_int))) (pg_name (i := 3) sc_l_start.nd rfl (Or.inl rfl)) (pss_one (ps_set (i := 2) sc_l_start.nd rfl (Or.inl rfl) (pe_op op_mod (pe_callTy call_int1 (by rfl) Z.int_ (by decide +kernel) (pa_cons (pe_op op_add (pe_op op_add (pe_op op_mul (pv 2) pe_int) (pe_op op_mod (pe_callTy call_int1 (by rfl) Z.int_ (by decide +kernel) (pa_cons (pv 3) pa_nil)) pe_int)) pe_int) pa_nil)) pe_int)))) (pss_one (ps_ret (pe_lst (pa_cons (pe_lc (own := [("_law_cell", 3)]) (g := gName 3) (by rfl) sc_l_start.nd (pi_list (pe_slice sl_list (pv 0) po_none (po_some pe_int))) (blkOk_by (own := [("_law_cell", 3)]) (N := ["_law_script", "_law_own", "_law_mixed", "_law_cell"]) (sc := defScope s_l_start) (by decide +kernel)) (fun _ _ _ _ _ => pg_name (i := 3) sc_l_start.nd rfl (Or.inl rfl)) (fun _ _ _ _ _ => pts_nil) (fun _ _ _ _ _ => (pe_callTy call_int1 (by rfl) Z.int_ (by decide +kernel) (pa_cons (pv 3) pa_nil)))) (pa_cons pe_int (pa_cons pe_int (pa_cons (pv 2) (pa_cons pe_int pa_nil)))))))))), ?_⟩
    have hl : (ns.map V.int).length ≤ 63 := by rw [List.length_map]; exact hlen
    -- the first number, then a turn for each cell
    refine ⟨_, rfl, _, rfl, 63, rfl, a, ns.map V.int, rfl, hS, fun c nc => ?_⟩
    rw [cut_none _ hl]
    have s1 : Same H (upd H c (.lst (ns.map V.int))) := same_new nc
    refine ⟨c, rfl, ⟨ns.map V.int, .inl (.inl upd_same)⟩, for_list (K := K) (a := c) (xs := ns.map V.int) (fun i σ H2 => ∃ (m : Int) (y : Option V), σ = [some (.ref a), some (.int own), some (.int m), y] ∧ Same H H2 ∧ H2 c = some (.lst (ns.map V.int)) ∧ 0 ≤ m ∧ m < 2147483563)
      ⟨own, none, rfl, s1, upd_same, ho0, ho1⟩ (fun i σ H2 _ ⟨_, _, _, _, e, _⟩ => .inl (.inl e)) ?_ ?_⟩
    · rintro i y σ H2 hi ⟨m, y', rfl, s2, e2, m0, m1⟩
      obtain ⟨z, _, rfl⟩ := getmap hi
      refine ⟨_, rfl, _, _, rfl, rfl, .inl ⟨by omega, by omega⟩, _, rfl, .inl ⟨_, rfl, _, _, rfl, rfl, (by show (0 : Int) < 2147483549; decide), _, _, rfl, rfl, _, _, rfl, rfl, .inl ⟨_, rfl, _, _, rfl, rfl, (by show (0 : Int) < 2147483563; decide), ?_⟩⟩⟩
      exact ⟨_, _, rfl, s2, e2, Int.emod_nonneg _ (by decide), Int.emod_lt_of_pos _ (by decide)⟩
    · rintro σ H2 ⟨m, y', rfl, s2, e2, m0, m1⟩
      -- the list's copy, and the list that draws
      refine ⟨_, rfl, 63, rfl, a, ns.map V.int, rfl, s2.seq hS, fun c2 nc2 => ?_⟩
      rw [cut_none _ hl]
      have s3 : Same H (upd H2 c2 (.lst (ns.map V.int))) := s2.trans (same_new nc2)
      refine ⟨c2, rfl, ⟨_, .inl (.inl upd_same)⟩, fun l nl => ?_⟩
      have ncl : c2 ≠ l := fun e => by rw [← e, upd_same] at nl; cases nl
      refine lc_list (K := K) (a := c2) (xs := ns.map V.int) (fun i H3 => Same H H3 ∧ H3 c2 = some (.lst (ns.map V.int)) ∧ H3 l = some (.lst ((ns.take i).map V.int)))
        ⟨s3.trans (same_new nl), by rw [upd_ne ncl]; exact upd_same, upd_same⟩ (fun i H3 _ ⟨_, e, _⟩ => .inl (.inl e)) ?_ ?_
      · rintro i y H3 hi ⟨s4, e4, e5⟩
        obtain ⟨z, hz, rfl⟩ := getmap hi
        have hz' := lt_of_get hz
        refine ⟨rfl, _, rfl, .inl ⟨_, rfl, _, e5, slineL (by rw [List.length_map, List.length_take]; omega), ?_⟩⟩
        refine ⟨same_mut s4 (s3.free nl), by rw [upd_ne ncl]; exact e4, ?_⟩
        rw [upd_same, take_succ_map hz]
      · rintro H3 ⟨s4, e4, e5⟩
        rw [List.length_map, List.take_length] at e5
        refine ⟨_, rfl, (by show 5 ≤ sizeLine; decide), fun p np => ?_⟩
        refine q _ ⟨p, l, ns⟩ (s4.trans (same_new np)) (s4.free np) (s3.free nl) ⟨ne_of_none e5 np, ?_, hlen, 0, 0, m, 0, upd_same, by decide, by decide, m0, by omega, by decide⟩
        rw [upd_ne (ne_of_none e5 np)]
        exact e5
end
end Th
namespace Th
open PySem PySem.Spec PyProof.Rows L2
theorem sc_l_draw : FnScope ["_law_state", "_law_many", "_law_cell", "_law_digit", "_law_base"] ["_law_state", "_law_many"] (defScope s_l_draw) := ⟨rfl, rfl, rfl, by decide +kernel, rfl, by decide +kernel, by decide +kernel⟩
/-- a number below n is drawn -/
def spDraw : Sp := fun vs H Q _ => ∃ (D : DS) (n : Int), vs = [.ref D.p, .int n] ∧ Drw D H ∧ 0 < n ∧ n < 1073741824 ∧ ∀ (r : Int) H', 0 ≤ r → r < n → Go D H H' → Q (.int r) H'
/-- the list that draws holds other numbers -/
theorem Go.put {D : DS} {H : Hp} (ne : D.l ≠ D.p) (sc : H D.l = some (.lst (D.ns.map V.int))) (few : D.ns.length ≤ 63) {xs : List V} (st : H D.p = some (.lst xs)) {H' : Hp} {i v m c : Int} (e : H' = upd H D.p (.lst [.ref D.l, .int i, .int v, .int m, .int c]))
    (hi : 0 ≤ i) (hv : 0 ≤ v) (m0 : 0 ≤ m) (m1 : m < 2147483648) (hc : 0 ≤ c) : Go D H H' := by
  subst e
  refine ⟨fun a o h => ?_, ne, ?_, few, i, v, m, c, upd_same, hi, hv, m0, m1, hc⟩
  · obtain ⟨z, h⟩ := hid_some h
    rw [hid_ne z, upd_ne z]
    exact h
  · rw [upd_ne ne]
    exact sc
section
variable {P : Program} {w : World} {K : PySem.W.Frag} {mg : Str → Option Value} {base : Heap} {CB : Addr}
theorem has_l_draw (Z : Zs mg) (A : At K mg "_law_draw" s_l_draw ["_law_state", "_law_many"]) : Has P w K mg base "_law_draw" s_l_draw 1 ["_law_state", "_law_many"] (spDraw) := by
  obtain ⟨f, fd, F, mg1, bd⟩ := A
  refine ⟨f, fd, ?_, mg1, F.kp, bd, F⟩
  refine F.ok sc_l_draw (fun vs H Q E h => ?_) (fun cdv A outer s H vs Q E hr h => ?_)
  · obtain ⟨D, n, rfl, _⟩ := h
    rfl
  · obtain ⟨D, n, rfl, d, n0, n1, q⟩ := h
    obtain ⟨ne, sc, few, i, v, m, c, st, hi, hv, m0, m1, hc⟩ := id d
    refine ⟨_, (C8.pss_cut (ps_if (PW.pt (pw_and (pt_cmpR op_eq (pe_ix ix_list (pv 0) pe_int (fun _ _ => rfl)) pe_int (nomark _)) (pw_and1 (pt_cmpR op_lt (pe_ix ix_list (pv 0) pe_int (fun _ _ => rfl)) (pe_callB call_len_seq (by rfl) Z.len_ (by decide +kernel) (pa_cons (pe_ix ix_list (pv 0) pe_int (fun _ _ => rfl)) pa_nil)) (nomark _))))) (pss_cons (ps_set (i := 2) sc_l_draw.nd rfl (Or.inl rfl) (pe_ix ix_list (pe_ix ix_list (pv 0) pe_int (fun _ _ => rfl)) (pe_ix ix_list (pv 0) pe_int (fun _ _ => rfl)) (fun _ _ => rfl))) (pss_cons (ps_asg (pe_op op_add (pe_ix ix_list (pv 0) pe_int (fun _ _ => rfl)) pe_int) (pg_sub (pv 0) pe_int set_list)) (pss_one (ps_if (pt_cmpR op_ge (pe_callB call_abs (by rfl) Z.abs_ (by decide +kernel) (pa_cons (pv 2) pa_nil)) (pe_op op_pow pe_int pe_int) (nomark _)) (pss_one (ps_asg (pe_callB call_abs (by rfl) Z.abs_ (by decide +kernel) (pa_cons (pv 2) pa_nil)) (pg_sub (pv 0) pe_int set_list))) pss_nil)))) pss_nil) (pss_cons (ps_if (pt_cmpR op_gt (pe_ix ix_list (pv 0) pe_int (fun _ _ => rfl)) pe_int (nomark _)) (pss_cons (ps_set (i := 3) sc_l_draw.nd rfl (Or.inl rfl) (pe_op op_mod (pe_callTy call_int1 (by rfl) Z.int_ (by decide +kernel) (pa_cons (pe_ix ix_list (pv 0) pe_int (fun _ _ => rfl)) pa_nil)) (pv 1))) (pss_cons (ps_asg (pe_op op_fdiv (pe_callTy call_int1 (by rfl) Z.int_ (by decide +kernel) (pa_cons (pe_ix ix_list (pv 0) pe_int (fun _ _ => rfl)) pa_nil)) (pv 1)) (pg_sub (pv 0) pe_int set_list)) (pss_one (ps_ret (pv 3))))) pss_nil) (pss_cons (ps_asg (pe_op op_add (pe_ix ix_list (pv 0) pe_int (fun _ _ => rfl)) pe_int) (pg_sub (pv 0) pe_int set_list)) (pss_cons (ps_set (i := 4) sc_l_draw.nd rfl (Or.inl rfl) (pe_op op_mod (pe_callTy call_int1 (by rfl) Z.int_ (by decide +kernel) (pa_cons (pe_op op_add (pe_ix ix_list (pv 0) pe_int (fun _ _ => rfl)) (pe_op op_mul (pe_ix ix_list (pv 0) pe_int (fun _ _ => rfl)) pe_int)) pa_nil)) pe_int)) (pss_cons (ps_asg (pe_op op_mod (pe_callTy call_int1 (by rfl) Z.int_ (by decide +kernel) (pa_cons (pe_op op_add (pe_op op_add (pe_op op_pow (pv 4) pe_int) (pe_op op_mul pe_int (pv 4))) pe_int) pa_nil)) pe_int) (pg_sub (pv 0) pe_int set_list)) (pss_one (ps_ret (pe_op op_mod (pe_callTy call_int1 (by rfl) Z.int_ (by decide +kernel) (pa_cons (pe_op op_add (pe_op op_fdiv (pe_ix ix_list (pv 0) pe_int (fun _ _ => rfl)) pe_int) (pe_op op_mul (pe_op op_mod (pe_callTy call_int1 (by rfl) Z.int_ (by decide +kernel) (pa_cons (pe_ix ix_list (pv 0) pe_int (fun _ _ => rfl)) pa_nil)) pe_int) pe_int)) pa_nil)) (pv 1))))))))), ?_⟩
    have ix0 : ∀ i v m c : Int, atI [V.ref D.l, .int i, .int v, .int m, .int c] 0 = some (.ref D.l) := fun _ _ _ _ => rfl
    have ix1 : ∀ i v m c : Int, atI [V.ref D.l, .int i, .int v, .int m, .int c] 1 = some (.int i) := fun _ _ _ _ => rfl
    have ix2 : ∀ i v m c : Int, atI [V.ref D.l, .int i, .int v, .int m, .int c] 2 = some (.int v) := fun _ _ _ _ => rfl
    have ix3 : ∀ i v m c : Int, atI [V.ref D.l, .int i, .int v, .int m, .int c] 3 = some (.int m) := fun _ _ _ _ => rfl
    have ix4 : ∀ i v m c : Int, atI [V.ref D.l, .int i, .int v, .int m, .int c] 4 = some (.int c) := fun _ _ _ _ => rfl
    refine ⟨fun σ H1 => ∃ (i v : Int) (y : Option V), σ = [some (.ref D.p), some (.int n), y, none, none] ∧ H1 D.p = some (.lst [.ref D.l, .int i, .int v, .int m, .int c]) ∧ H1 D.l = some (.lst (D.ns.map V.int)) ∧ Go D H H1 ∧ 0 ≤ i ∧ 0 ≤ v, ?_, ?_⟩
    · -- a cell of the script is taken, or not
      have stay : ∃ (i v : Int) (y : Option V), [some (V.ref D.p), some (V.int n), none, none, none] = [some (.ref D.p), some (.int n), y, none, none] ∧ H D.p = some (.lst [.ref D.l, .int i, .int v, .int m, .int c]) ∧ H D.l = some (.lst (D.ns.map V.int)) ∧ Go D H H ∧ 0 ≤ i ∧ 0 ≤ v :=
        ⟨i, v, none, rfl, st, sc, .refl d, hi, hv⟩
      refine ⟨_, rfl, D.p, _, _, _, rfl, rfl, .inl (.inl st), ix2 _ _ _ _, rfl, _, rfl, ?_⟩
      refine ite2 (fun hv0 => ?_) (fun hv0 => iteF stay)
      refine ⟨_, rfl, D.p, _, _, _, rfl, rfl, .inl (.inl st), ix1 _ _ _ _, _, rfl, D.p, _, _, _, rfl, rfl, .inl (.inl st), ix0 _ _ _ _, D.l, _, rfl, .inl (.inl (.inl sc)), _, _, rfl, rfl, _, rfl, ?_⟩
      refine ite2 (fun hi1 => ?_) (fun hi1 => stay)
      have hi2 : i < D.ns.length := by
        have := of_decide_eq_true hi1
        rw [List.length_map] at this
        exact this
      obtain ⟨z, hz⟩ : ∃ z, D.ns[i.toNat]? = some z := ⟨_, List.getElem?_eq_getElem (by omega)⟩
      -- cell = state[0][state[1]]
      refine ⟨_, rfl, D.p, _, _, _, rfl, rfl, .inl (.inl st), ix0 _ _ _ _, _, rfl, D.p, _, _, _, rfl, rfl, .inl (.inl st), ix1 _ _ _ _, D.l, _, _, _, rfl, rfl, .inl (.inl sc), atI_of hi (by rw [List.getElem?_map, hz]; rfl), ?_⟩
      -- state[1] = state[1] + 1
      refine ⟨_, rfl, D.p, _, _, _, rfl, rfl, .inl (.inl st), ix1 _ _ _ _, _, _, rfl, rfl, _, rfl, D.p, _, _, 1, rfl, rfl, st, rfl, ?_⟩
      have g1 : Go D H (upd H D.p (.lst [V.ref D.l, .int (i + 1), .int v, .int m, .int c])) := Go.put ne sc few st rfl (by omega) hv m0 m1 hc
      have e1 : (upd H D.p (.lst [V.ref D.l, .int (i + 1), .int v, .int m, .int c])) D.l = some (.lst (D.ns.map V.int)) := by rw [upd_ne ne]; exact sc
      -- if abs(cell) is great
      refine ⟨_, rfl, _, rfl, _, _, rfl, rfl, ⟨by decide, by decide, by decide⟩, _, _, rfl, rfl, _, rfl, ?_⟩
      refine ite2 (fun hb => ?_) (fun hb => ?_)
      · refine ⟨_, rfl, _, rfl, _, rfl, D.p, _, _, 2, rfl, rfl, upd_same, rfl, ?_⟩
        rw [upd_upd]
        have hz0 : 0 ≤ (if z < 0 then -z else z) := by split <;> omega
        exact ⟨i + 1, _, _, rfl, upd_same, by rw [upd_ne ne]; exact sc, Go.put ne sc few st rfl (by omega) hz0 m0 m1 hc, by omega, hz0⟩
      · exact ⟨i + 1, v, _, rfl, upd_same, e1, g1, by omega, hv⟩
    · -- a digit of the great number, or a fresh one
      rintro σ H1 ⟨i, v, y, rfl, st, sc, g, hi, hv⟩
      refine ⟨_, rfl, D.p, _, _, _, rfl, rfl, .inl (.inl st), ix2 _ _ _ _, _, _, rfl, rfl, _, rfl, ?_⟩
      refine ite2 (fun hv0 => ?_) (fun hv0 => ?_)
      · refine ⟨_, rfl, D.p, _, _, _, rfl, rfl, .inl (.inl st), ix2 _ _ _ _, .inl ⟨_, rfl, _, rfl, _, _, rfl, rfl, n0, ?_⟩⟩
        refine ⟨_, rfl, D.p, _, _, _, rfl, rfl, .inl (.inl st), ix2 _ _ _ _, .inl ⟨_, rfl, _, rfl, _, _, rfl, rfl, ⟨n0, n1⟩, _, rfl, D.p, _, _, 2, rfl, rfl, st, rfl, ?_⟩⟩
        refine ⟨_, rfl, ?_⟩
        exact q _ _ (Int.emod_nonneg _ (by omega)) (Int.emod_lt_of_pos _ n0) (g.trans (Go.put ne sc few st rfl hi (Int.ediv_nonneg hv (by omega)) m0 m1 hc))
      · -- state[4] = state[4] + 1
        refine ⟨_, rfl, D.p, _, _, _, rfl, rfl, .inl (.inl st), ix4 _ _ _ _, _, _, rfl, rfl, _, rfl, D.p, _, _, 4, rfl, rfl, st, rfl, ?_⟩
        have st2 : (upd H1 D.p (.lst [V.ref D.l, .int i, .int v, .int m, .int (c + 1)])) D.p = some (.lst [V.ref D.l, .int i, .int v, .int m, .int (c + 1)]) := upd_same
        refine ⟨_, rfl, D.p, _, _, _, rfl, rfl, .inl (.inl st2), ix3 _ _ _ _, _, rfl, D.p, _, _, _, rfl, rfl, .inl (.inl st2), ix4 _ _ _ _, _, _, rfl, rfl, .inr ⟨by decide, by decide⟩, _, _, rfl, rfl, .inl ⟨_, rfl, _, _, rfl, rfl, (by show (0 : Int) < 2147483563; decide), ?_⟩⟩
        refine ⟨_, rfl, _, _, rfl, rfl, ⟨by decide, by decide, by omega⟩, _, rfl, _, _, rfl, rfl, .inl ⟨by decide, by decide⟩, _, _, rfl, rfl, _, _, rfl, rfl, .inl ⟨_, rfl, _, _, rfl, rfl, (by show (0 : Int) < 2147483563; decide), _, rfl, D.p, _, _, 3, rfl, rfl, st2, rfl, ?_⟩⟩
        rw [upd_upd]
        have st3 : ∀ r : Int, (upd H1 D.p (.lst [V.ref D.l, .int i, .int v, .int r, .int (c + 1)])) D.p = some (.lst [V.ref D.l, .int i, .int v, .int r, .int (c + 1)]) := fun r => upd_same
        refine ⟨_, rfl, D.p, _, _, _, rfl, rfl, .inl (.inl (st3 _)), ix3 _ _ _ _, _, _, rfl, rfl, ⟨by decide, by decide⟩, _, rfl, D.p, _, _, _, rfl, rfl, .inl (.inl (st3 _)), ix3 _ _ _ _, .inl ⟨_, rfl, _, _, rfl, rfl, (by show (0 : Int) < 6047; decide), _, _, rfl, rfl, .inr ⟨by decide, by decide⟩, _, _, rfl, rfl, .inl ⟨_, rfl, _, rfl, _, _, rfl, rfl, n0, ?_⟩⟩⟩
        exact q _ _ (Int.emod_nonneg _ (by omega)) (Int.emod_lt_of_pos _ n0) (g.trans (Go.put ne sc few st rfl hi hv (Int.emod_nonneg _ (by decide)) (Int.lt_trans (Int.emod_lt_of_pos (b := 2147483563) _ (by decide)) (by decide)) (by omega)))
end
end Th
namespace Th
open PySem PySem.Spec PyProof.Rows L2
theorem sc_l_pick : FnScope ["_law_state", "_law_pool"] ["_law_state", "_law_pool"] (defScope s_l_pick) := ⟨rfl, rfl, rfl, by decide +kernel, rfl, by decide +kernel, by decide +kernel⟩
/-- one of the things of a list -/
def spPick (K : PySem.W.Frag) : Sp := fun vs H Q _ => ∃ (D : DS) (q : Addr) (xs : List V), vs = [.ref D.p, .ref q] ∧ Drw D H ∧ SqL K (hid D.p H) q xs ∧ 0 < xs.length ∧ xs.length ≤ 1000 ∧ ∀ (i : Nat) (v : V) H', xs[i]? = some v → Go D H H' → Q v H'
section
variable {P : Program} {w : World} {K : PySem.W.Frag} {mg : Str → Option Value} {base : Heap} {CB : Addr}
theorem has_l_pick (Z : Zs mg) (A : At K mg "_law_pick" s_l_pick ["_law_state", "_law_pool"]) (h_l_draw : Has P w K mg base "_law_draw" s_l_draw 1 ["_law_state", "_law_many"] (spDraw)) : Has P w K mg base "_law_pick" s_l_pick 2 ["_law_state", "_law_pool"] (spPick K) := by
  obtain ⟨f, fd, F, mg1, bd⟩ := A
  obtain ⟨f_l_draw, fd_l_draw, G_l_draw, m_l_draw, k_l_draw, b_l_draw, F_l_draw⟩ := h_l_draw
  refine ⟨f, fd, ?_, mg1, F.kp, bd, F⟩
  refine F.ok sc_l_pick (fun vs H Q E h => ?_) (fun cdv A outer s H vs Q E hr h => ?_)
  · obtain ⟨D, p, xs, rfl, _⟩ := h
    rfl
  · obtain ⟨D, p, xs, rfl, d, hS, h0, h1, q⟩ := h
    refine ⟨_, (pss_one (ps_ret (pe_ix ix_list (pv 1) (pe_call G_l_draw (hr.mono (by decide)) (by rfl) m_l_draw k_l_draw b_l_draw .nil pass0 (pa_cons (pv 0) (pa_cons (pe_callB call_len_seq (by rfl) Z.len_ (by decide +kernel) (pa_cons (pv 1) pa_nil)) pa_nil))) (fun _ _ => rfl)))), ?_⟩
    have hA : SqL K H p xs := hid_same.seq hS
    refine ⟨_, rfl, _, rfl, _, rfl, p, xs, rfl, .inl hA, D, _, rfl, d, by omega, by omega, fun r H' r0 r1 g => ?_⟩
    obtain ⟨v, hv⟩ : ∃ v, xs[r.toNat]? = some v := ⟨_, List.getElem?_eq_getElem (by omega)⟩
    exact ⟨p, xs, r, v, rfl, rfl, hid_same.seq (g.sm.seq hS), atI_of r0 hv, q _ v H' hv g⟩
end
end Th
namespace Th
open PySem PySem.Spec PyProof.Rows L2
theorem sc_l_odd : FnScope ["_law_state"] ["_law_state"] (defScope s_l_odd) := ⟨rfl, rfl, rfl, by decide +kernel, rfl, by decide +kernel, by decide +kernel⟩
/-- the second argument of the call that a def hands back -/
def argE (s : Stmt) : Expr := match defBody s with
  | [.Return (some (.Call _ [_, e] _ _)) _] => e
  | _ => .Constant .none 0 ⟨0, 0, 0, 0⟩
def spOdd (K : PySem.W.Frag) : Sp := fun vs H Q _ => ∃ (D : DS), vs = [.ref D.p] ∧ Drw D H ∧ ∀ (v : V) (d : PyData) H', d ∈ odds → Go D H H' → Da K (hid D.p H') v d → Q v H'
section
variable {P : Program} {w : World} {K : PySem.W.Frag} {mg : Str → Option Value} {base : Heap} {CB : Addr}
theorem has_l_odd (Z : Zs mg) (A : At K mg "_law_odd" s_l_odd ["_law_state"]) (h_l_pick : Has P w K mg base "_law_pick" s_l_pick 2 ["_law_state", "_law_pool"] (spPick K)) : Has P w K mg base "_law_odd" s_l_odd 3 ["_law_state"] (spOdd K) := by
  obtain ⟨f, fd, F, mg1, bd⟩ := A
  obtain ⟨f_l_pick, fd_l_pick, G_l_pick, m_l_pick, k_l_pick, b_l_pick, F_l_pick⟩ := h_l_pick
  refine ⟨f, fd, ?_, mg1, F.kp, bd, F⟩
  refine F.ok sc_l_odd (fun vs H Q E h => ?_) (fun cdv A outer s H vs Q E hr h => ?_)
  · obtain ⟨D, rfl, _⟩ := h
    rfl
  · obtain ⟨D, rfl, d, q⟩ := h
    obtain ⟨t, pe, lit, _⟩ := litE_ok (K := K) (X := (cxOf CX0 P w K mg base ["_law_state"] "_law_odd" (defScope s_l_odd) f cdv A outer s H E).nox) 3 (argE s_l_odd) (.list odds) (by kernel_rfl)
    refine ⟨_, (pss_one (ps_ret (pe_call G_l_pick (hr.mono (by decide)) (by rfl) m_l_pick k_l_pick b_l_pick .nil pass0 (pa_cons (pv 0) (pa_cons pe pa_nil))))), ?_⟩
    refine ⟨_, rfl, lit D _ H _ d fun v H1 g1 r => ?_⟩
    cases r with
    | lst hs ht ha =>
      have lv := ha.len
      have l35 : odds.length = 35 := rfl
      refine ⟨D, _, _, rfl, g1.st, hs, by omega, by omega, fun i v H2 hv g3 => ?_⟩
      obtain ⟨e, he, re⟩ := ha.at hv
      exact q v e H2 (List.mem_of_getElem? he) (g1.trans g3) (re.to g3.sm)
end
end Th
namespace Th
open PySem PySem.Spec PyProof.Rows L2
theorem sc_l_letters : FnScope [] [] (defScope s_l_letters) := ⟨rfl, rfl, rfl, by decide +kernel, rfl, by decide +kernel, by decide +kernel⟩
def spLetters : Sp := fun vs H Q _ => vs = [] ∧ Q (.str abc) H
section
variable {P : Program} {w : World} {K : PySem.W.Frag} {mg : Str → Option Value} {base : Heap} {CB : Addr}
theorem has_l_letters (Z : Zs mg) (A : At K mg "_law_letters" s_l_letters []) : Has P w K mg base "_law_letters" s_l_letters 1 [] (spLetters) := by
  obtain ⟨f, fd, F, mg1, bd⟩ := A
  refine ⟨f, fd, ?_, mg1, F.kp, bd, F⟩
  refine F.ok sc_l_letters (fun vs H Q E h => ?_) (fun cdv A outer s H vs Q E hr h => ?_)
  · obtain ⟨rfl, _⟩ := h
    rfl
  · obtain ⟨rfl, q⟩ := h
    exact ⟨_, (pss_one (ps_ret pe_str)), q⟩
end
end Th
namespace Th
open PySem PySem.Spec PyProof.Rows L2
theorem sc_l_word : FnScope ["_law_state", "_law_longest", "_law_k"] ["_law_state", "_law_longest"] (defScope s_l_word) := ⟨rfl, rfl, rfl, by decide +kernel, rfl, by decide +kernel, by decide +kernel⟩
/-- a text of 1 to n small letters -/
def spWord (K : PySem.W.Frag) : Sp := fun vs H Q _ => ∃ (D : DS) (n : Int), vs = [.ref D.p, .int n] ∧ Drw D H ∧ 0 < n ∧ n ≤ 1000 ∧ ∀ (x : Str) H', Lw x → 1 ≤ x.length → (x.length : Int) ≤ n → Go D H H' → Q (.str x) H'
theorem word_len : ∀ l : List Nat, ((l.map fun k => (⟨#[let_ k]⟩ : Str)).map cs).flatten = l.map let_
  | [] => rfl
  | k :: r => by
    rw [List.map_cons, List.map_cons, List.flatten_cons, word_len r]
    rfl
theorem word_sum : ∀ l : List Nat, ((l.map fun k => (⟨#[let_ k]⟩ : Str)).map (·.length)).sum = l.length
  | [] => rfl
  | k :: r => by
    rw [List.map_cons, List.map_cons, List.sum_cons, word_sum r, List.length_cons]
    show 1 + r.length = r.length + 1
    omega
section
variable {P : Program} {w : World} {K : PySem.W.Frag} {mg : Str → Option Value} {base : Heap} {CB : Addr}
theorem has_l_word (Z : Zs mg) (A : At K mg "_law_word" s_l_word ["_law_state", "_law_longest"]) (h_l_draw : Has P w K mg base "_law_draw" s_l_draw 1 ["_law_state", "_law_many"] (spDraw)) (h_l_letters : Has P w K mg base "_law_letters" s_l_letters 1 [] (spLetters)) : Has P w K mg base "_law_word" s_l_word 2 ["_law_state", "_law_longest"] (spWord K) := by
  obtain ⟨f, fd, F, mg1, bd⟩ := A
  obtain ⟨f_l_draw, fd_l_draw, G_l_draw, m_l_draw, k_l_draw, b_l_draw, F_l_draw⟩ := h_l_draw
  obtain ⟨f_l_letters, fd_l_letters, G_l_letters, m_l_letters, k_l_letters, b_l_letters, F_l_letters⟩ := h_l_letters
  refine ⟨f, fd, ?_, mg1, F.kp, bd, F⟩
  refine F.ok sc_l_word (fun vs H Q E h => ?_) (fun cdv A outer s H vs Q E hr h => ?_)
  · obtain ⟨D, n, rfl, _⟩ := h
    rfl
  · obtain ⟨D, n, rfl, d, n0, n1, q⟩ := h
    refine ⟨_, (pss_one (ps_ret (pe_join pe_str (pe_lc (own := [("_law_k", 2)]) (g := gName 2) (by rfl) sc_l_word.nd (pi_range1 (by rfl) Z.range_ (pa_cons (pe_op op_add pe_int (pe_call G_l_draw (hr.mono (by decide)) (by rfl) m_l_draw k_l_draw b_l_draw .nil pass0 (pa_cons (pv 0) (pa_cons (pv 1) pa_nil)))) pa_nil)) (blkOk_by (own := [("_law_k", 2)]) (N := ["_law_state", "_law_longest", "_law_k"]) (sc := defScope s_l_word) (by decide +kernel)) (fun _ _ _ _ _ => pg_name (i := 2) sc_l_word.nd rfl (Or.inl rfl)) (fun _ _ _ _ _ => pts_nil) (fun _ _ _ _ _ => (pe_ix ix_str (pe_call0 G_l_letters (hr.mono (by decide)) (by rfl) m_l_letters k_l_letters b_l_letters .nil pass0) (pe_call G_l_draw (hr.mono (by decide)) (by rfl) m_l_draw k_l_draw b_l_draw .nil pass0 (pa_cons (pv 0) (pa_cons pe_int pa_nil))) (fun _ _ => rfl))))))), ?_⟩
    refine ⟨⟨_, rfl⟩, _, rfl, _, rfl, D, n, rfl, d, n0, by omega, fun r H1 r0 r1 g => ⟨_, _, rfl, rfl, _, rfl, by omega, by omega, fun L nL => ?_⟩⟩
    have nLp := g.st.ne_new nL
    refine lc_range (lo := 0) (n := (1 + r).toNat) (fun i H2 => ∃ l : List Nat, l.length = i ∧ (∀ k ∈ l, k < 26) ∧ Go D H H2 ∧ H2 L = some (.lst ((l.map fun k => (⟨#[let_ k]⟩ : Str)).map V.str)))
      ⟨[], rfl, (fun _ z => nomatch z), g.new nL, upd_same⟩ ?_ ?_
    · rintro i H2 hi ⟨l, hl, hk, g2, e2⟩
      refine ⟨rfl, rfl, _, rfl, D, 26, rfl, g2.st, by decide, by decide, fun k H3 k0 k1 g3 => ⟨abc, k, let_ k.toNat, rfl, rfl, sline_abc, atI_let k0 k1, _, g3.old nLp e2, slineL (by rw [List.length_map, List.length_map]; omega), ?_⟩⟩
      refine ⟨l ++ [k.toNat], by rw [List.length_append, hl]; rfl, fun z hz => ?_, (g2.trans g3).mut d (g.free d nL), ?_⟩
      · rcases List.mem_append.mp hz with hz | hz
        · exact hk z hz
        · rw [List.mem_singleton.mp hz]; omega
      · rw [upd_same, List.map_append, List.map_append]
        rfl
    · rintro H2 ⟨l, hl, hk, g2, e2⟩
      refine ⟨_, L, _, rfl, rfl, .inl (.inl (.inl e2)), ?_, ?_⟩
      · rw [word_sum, List.length_map, show (Str.ofString "").length = 0 from rfl]
        omega
      · have ec : cs (Txt.join (Str.ofString "") (l.map fun k => (⟨#[let_ k]⟩ : Str))) = l.map let_ := by
          unfold Txt.join
          rw [PySem.StrLaws.glued_eq_join]
          exact (cs_join _).trans (word_len l)
        refine q _ _ (fun c hc => ?_) ?_ ?_ g2
        · rw [ec] at hc
          obtain ⟨k, hk1, rfl⟩ := List.mem_map.mp hc
          exact let_mem (hk k hk1)
        · rw [cs_len, ec, List.length_map]; omega
        · rw [cs_len, ec, List.length_map]; omega
end
end Th
namespace Th
open PySem PySem.Spec PyProof.Rows L2
theorem sc_p_copied : FnScope ["value", "item"] ["value"] (defScope s_p_copied) := ⟨rfl, rfl, rfl, by decide +kernel, rfl, by decide +kernel, by decide +kernel⟩

/-- a copy of data: what is hidden stays out of it -/
def spCopy (K : PySem.W.Frag) (n : Nat) : Sp := fun vs H Q _ => ∃ (v : V) (d : PyData) (S : Addr → Prop), vs = [v] ∧ (∀ b, S b → H b ≠ none) ∧ Da K (hidS S H) v d ∧ LvN n d ∧ ∀ v' H', Same H H' → Da K (hidS S H') v' d → Q v' H'
section
variable {P : Program} {w : World} {K : PySem.W.Frag} {mg : Str → Option Value} {base : Heap}
theorem copied_step (Z : Zs mg) {f : Addr} {fd : FuncData} (F : Fun K "copied" "copied" s_p_copied f fd) (m_p_copied : mg "copied" = some (.ref f)) (b_p_copied : Binds K fd ["value"] []) (k : Nat)
    (G_p_copied : FnOk P w K mg base CX0 k f fd ["value"] (spCopy K k)) : FnOk P w K mg base CX0 (k + 1) f fd ["value"] (spCopy K (k + 1)) := by
  have k_p_copied := F.kp
  refine F.ok sc_p_copied (fun vs H Q E h => ?_) (fun cdv A outer s H vs Q E hr h => ?_)
  · obtain ⟨v, d, S, rfl, _⟩ := h
    rfl
  · obtain ⟨v, d, S, rfl, hS, rv, lv, q⟩ := h
    have nd := rv.nodict
    have rH := rv.to hidS_same
    refine ⟨_, (pss_cons (ps_if (pt_val (pe_callB call_isi (by rfl) Z.isinstance_ (by decide +kernel) (pa_cons (pv 0) (pa_cons (pe_bltn (v := .ty "list") (by rfl) Z.list_ (by decide +kernel) rfl) pa_nil)))) (pss_one (ps_ret (pe_lc (own := [("item", 1)]) (g := gName 1) (by rfl) sc_p_copied.nd (pi_list (pv 0)) (blkOk_by (own := [("item", 1)]) (N := ["value", "item"]) (sc := defScope s_p_copied) (by decide +kernel)) (fun _ _ _ _ _ => pg_name (i := 1) sc_p_copied.nd rfl (Or.inl rfl)) (fun _ _ _ _ _ => pts_nil) (fun _ _ _ _ _ => (pe_call G_p_copied (hr.mono (Nat.le_refl _)) (by rfl) m_p_copied k_p_copied b_p_copied .nil pass0 (pa_cons (pv 1) pa_nil)))))) pss_nil) (pss_cons (ps_if (pt_val (pe_callB call_isi (by rfl) Z.isinstance_ (by decide +kernel) (pa_cons (pv 0) (pa_cons (pe_bltn (v := .ty "tuple") (by rfl) Z.tuple_ (by decide +kernel) rfl) pa_nil)))) (pss_one (ps_ret (pe_callTy call_tuple_of (by rfl) Z.tuple_ (by decide +kernel) (pa_cons (pe_lc (own := [("item", 1)]) (g := gName 1) (by rfl) sc_p_copied.nd (pi_tup (pv 0)) (blkOk_by (own := [("item", 1)]) (N := ["value", "item"]) (sc := defScope s_p_copied) (by decide +kernel)) (fun _ _ _ _ _ => pg_name (i := 1) sc_p_copied.nd rfl (Or.inl rfl)) (fun _ _ _ _ _ => pts_nil) (fun _ _ _ _ _ => (pe_call G_p_copied (hr.mono (Nat.le_refl _)) (by rfl) m_p_copied k_p_copied b_p_copied .nil pass0 (pa_cons (pv 1) pa_nil)))) pa_nil)))) pss_nil) (pss_one (ps_ret (pv 0))))), ?_⟩
    have lv : Lv k d := lv
    -- a comprehension over the items copies each
    have walk : ∀ (L : Addr) (xs : List V) (ds : List PyData), H L = none → DaAll K (hidS S H) xs ds → (∀ x ∈ ds, LvN k x) → xs.length ≤ 60 → ∀ (i : Nat) (y : V) (H2 : Hp), xs[i]? = some y →
        (∃ ys, Same H H2 ∧ H2 L = some (.lst ys) ∧ ys.length = i ∧ DaAll K (hidS (fun b => S b ∨ b = L) H2) ys (ds.take i)) →
        spCopy K k ([y] ++ []) H2 (fun v' H3 => ∃ zs, H3 L = some (.lst zs) ∧ zs.length < sizeLine ∧ ∃ ys, Same H (upd H3 L (.lst (zs ++ [v']))) ∧ upd H3 L (.lst (zs ++ [v'])) L = some (.lst ys) ∧ ys.length = i + 1 ∧ DaAll K (hidS (fun b => S b ∨ b = L) (upd H3 L (.lst (zs ++ [v'])))) ys (ds.take (i + 1))) E0 := by
      rintro L xs ds nL rx lvx lx i y H2 hi ⟨ys, s2, e2, hy, ry⟩
      obtain ⟨e, he, re⟩ := rx.at hi
      refine ⟨y, e, fun b => S b ∨ b = L, rfl, fun b hb => ?_, re.to (hidS_more s2 nL), lvx e (List.mem_of_getElem? he), fun v' H3 s3 rv' => ?_⟩
      · rcases hb with hb | rfl
        · cases e1 : H b with
          | none => exact absurd e1 (hS b hb)
          | some o => rw [s2 b o e1]; exact fun z => nomatch z
        · rw [e2]; exact fun z => nomatch z
      · refine ⟨ys, s3 _ _ e2, slineL (by have := lt_of_get hi; omega), ys ++ [v'], same_mut (s2.trans s3) nL, upd_same, by rw [List.length_append, hy]; rfl, ?_⟩
        rw [hidS_upd, List.take_add_one, he]
        exact (ry.to (hidS_mono s3)).app (.cons rv' .nil)
    by_cases hl : tyD d = "list"
    · cases d with
      | none => exact absurd (show ("NoneType" : String) = "list" from hl) (by decide)
      | bool b => exact absurd (show ("bool" : String) = "list" from hl) (by decide)
      | int b => exact absurd (show ("int" : String) = "list" from hl) (by decide)
      | str b => exact absurd (show ("str" : String) = "list" from hl) (by decide)
      | tuple ds => exact absurd (show ("tuple" : String) = "list" from hl) (by decide)
      | dict kvs => exact absurd rfl nd
      | list ds =>
        obtain ⟨lvl, lvx⟩ := lvn_list lv
        cases rv with
        | @lst p xs _ hp ht rx =>
        have hp' := hidS_same.seq hp
        have lx : xs.length ≤ 60 := by rw [rx.len]; exact lvl
        refine ⟨_, rfl, _, _, _, _, _, rfl, .ty "list", rH.ty, kit_ty (kit_list _ nd), _, rfl, iteT ?_⟩
        refine ⟨_, rfl, p, rfl, ⟨_, hp'⟩, fun L nL => ?_⟩
        have nS : ¬ S L := fun z => hS L z nL
        refine lc_list (K := K) (a := p) (xs := xs) (fun i H2 => ∃ ys, Same H H2 ∧ H2 L = some (.lst ys) ∧ ys.length = i ∧ DaAll K (hidS (fun b => S b ∨ b = L) H2) ys (ds.take i)) ⟨[], same_new nL, upd_same, rfl, .nil⟩ (fun i H2 _ ⟨_, s2, _⟩ => s2.seq hp') ?_ ?_
        · intro i y H2 hi w2
          have step := walk L xs ds nL rx lvx lx i y H2 hi w2
          refine ⟨rfl, _, rfl, ?_⟩
          exact step
        · rintro H2 ⟨ys, s2, e2, hy, ry⟩
          rw [rx.len, List.take_length] at ry
          refine q _ _ s2 (Da.newL (by rw [hidS_out nS]; exact e2) (ry.to hidS_less))
    refine ⟨_, rfl, _, _, _, _, _, rfl, .ty "list", rH.ty, kit_ty (kit_list _ nd), _, rfl, ?_⟩
    rw [decide_eq_false hl]
    refine iteF ?_
    by_cases ht : tyD d = "tuple"
    · cases d with
      | none => exact absurd (show ("NoneType" : String) = "tuple" from ht) (by decide)
      | bool b => exact absurd (show ("bool" : String) = "tuple" from ht) (by decide)
      | int b => exact absurd (show ("int" : String) = "tuple" from ht) (by decide)
      | str b => exact absurd (show ("str" : String) = "tuple" from ht) (by decide)
      | list ds => exact absurd (show ("list" : String) = "tuple" from ht) (by decide)
      | dict kvs => exact absurd rfl nd
      | tuple ds =>
        obtain ⟨lvl, lvx⟩ := lvn_tuple lv
        cases rv with
        | @tup p xs _ hp hty rx =>
        have hp' := same_t hidS_same hp
        have lx : xs.length ≤ 60 := by rw [rx.len]; exact lvl
        refine ⟨_, rfl, _, _, _, _, _, rfl, .ty "tuple", rH.ty, kit_ty (kit_tuple _ nd), _, rfl, iteT ?_⟩
        refine ⟨_, rfl, p, rfl, ⟨_, hp'⟩, fun L nL => ?_⟩
        refine lc_tup (K := K) (a := p) (xs := xs) (fun i H2 => ∃ ys, Same H H2 ∧ H2 L = some (.lst ys) ∧ ys.length = i ∧ DaAll K (hidS (fun b => S b ∨ b = L) H2) ys (ds.take i)) ⟨[], same_new nL, upd_same, rfl, .nil⟩ (fun i H2 _ ⟨_, s2, _⟩ => same_t s2 hp') ?_ ?_
        · intro i y H2 hi w2
          have step := walk L xs ds nL rx lvx lx i y H2 hi w2
          refine ⟨rfl, _, rfl, ?_⟩
          exact step
        · rintro H2 ⟨ys, s2, e2, hy, ry⟩
          rw [rx.len, List.take_length] at ry
          refine ⟨L, ys, rfl, .inl ⟨.inl (.inl e2), fun r nr => ?_⟩⟩
          have s3 := same_new (o := .tup ys) nr
          have nSr : ¬ S r := fun z => by
            have h1 := hS r z
            cases e1 : H r with
            | none => exact h1 e1
            | some o => rw [s2 r o e1] at nr; cases nr
          refine q _ _ (s2.trans s3) (Da.newT (by rw [hidS_out nSr]; exact upd_same) ((ry.to hidS_less).to (hidS_mono s3)))
    refine ⟨_, rfl, _, _, _, _, _, rfl, .ty "tuple", rH.ty, kit_ty (kit_tuple _ nd), _, rfl, ?_⟩
    rw [decide_eq_false ht]
    refine iteF ?_
    exact ⟨_, rfl, q _ _ (Same.refl _) rv⟩
theorem has_p_copied (Z : Zs mg) (A : At K mg "copied" s_p_copied ["value"]) : Has P w K mg base "copied" s_p_copied 6 ["value"] (spCopy K 6) := by
  obtain ⟨f, fd, F, mg1, bd⟩ := A
  refine ⟨f, fd, ?_, mg1, F.kp, bd, F⟩
  have G0 : FnOk P w K mg base CX0 0 f fd ["value"] (spCopy K 0) := ⟨fun vs H Q E h => by obtain ⟨v, d, S, rfl, _⟩ := h; rfl, fun A outer s H args us vs Q E hr he hb hv hs => by obtain ⟨v, d, S, rfl, _, _, z, _⟩ := hs; exact z.elim⟩
  exact copied_step Z F mg1 bd 5 (copied_step Z F mg1 bd 4 (copied_step Z F mg1 bd 3 (copied_step Z F mg1 bd 2 (copied_step Z F mg1 bd 1 (copied_step Z F mg1 bd 0 G0)))))
end
end Th
namespace Th
open PySem PySem.Spec PyProof.Rows L2
theorem sc_c_InvalidName_init : FnScope ["self", "value"] ["self", "value"] (defScope s_c_InvalidName_init) := ⟨rfl, rfl, rfl, by decide +kernel, rfl, by decide +kernel, by decide +kernel⟩
def valN : List Str := [Str.ofString "InvalidName", Str.ofString "InvalidNumber"]
def atN : List Str := [Str.ofString "InvalidLot", Str.ofString "InvalidFind", Str.ofString "InvalidWord", Str.ofString "InvalidFact", Str.ofString "InvalidOrder", Str.ofString "InvalidKind", Str.ofString "InvalidPair", Str.ofString "InvalidDeed", Str.ofString "UnknownKept"]
def nameN : List Str := [Str.ofString "InvalidTimes", Str.ofString "InvalidWeights", Str.ofString "DuplicateName", Str.ofString "Same", Str.ofString "Taken", Str.ofString "UnknownName", Str.ofString "UnknownFind"]
def lotN : List Str := [Str.ofString "NotABlock", Str.ofString "UnknownNode"]

/-- the fields of an error beside its code -/
def fldsN (n : Str) : List Str := if n ∈ valN then ["value"] else if n ∈ atN then ["at"] else if n ∈ nameN then ["name"] else if n = "TooMany" then ["most"] else if n = "TooFew" then ["least"] else if n ∈ lotN then ["lot"] else if n = "Clash" then ["marks"]
  else if n = "InUse" then ["mark"] else if n = "InvalidText" then ["line", "why"] else if n = "NoTable" then ["why", "found"] else if n = "CannotStand" then ["one", "two", "three"] else []
def flE (x : Str) (fl : List Str) (ws : List V) : List (Str × V) := ("code", .str x) :: (fl.zip ws).reverse
/-- an __init__ that copies its arguments into fields -/
def spInitN (K : PySem.W.Frag) (x : Str) (fl : List Str) (n : Nat) : Sp := fun vs H Q _ => ∃ (a C : Addr) (ws : List V) (ds : List PyData) (S : Addr → Prop), vs = .ref a :: ws ∧ (∀ b, S b → H b ≠ none) ∧ ¬ S a ∧ ExG K C ∧ (∀ f ∈ Str.ofString "code" :: fl, PySem.W.findIn K (.ref C) f = some none) ∧ H a = some (exo a C none) ∧ DaAll K (hidS S H) ws ds ∧ (∀ d ∈ ds, LvN n d) ∧ ds.length = fl.length ∧
  ∀ (H3 : Hp) (ws' : List V) (dx : Addr), (∀ b o, b ≠ a → H b = some o → H3 b = some o) → DaAll K (hidS S H3) ws' ds → H dx = none → dx ≠ a → H3 a = some (exo a C (some dx)) → H3 dx = some (exd dx (flE x fl ws')) → Q .non H3
/-- an error as a value -/
def ExV (K : PySem.W.Frag) (mg : Str → Option Value) (H : Hp) (v : V) (x : Str) (ds : List PyData) : Prop := ∃ (a C dx : Addr) (ws : List V), v = .ref a ∧ mg x = some (.ref C) ∧ XfC K C ∧ (∀ f ∈ Str.ofString "code" :: fldsN x, PySem.W.findIn K (.ref C) f = some none) ∧ H a = some (exo a C (some dx)) ∧ H dx = some (exd dx (flE x (fldsN x) ws)) ∧ DaAll K H ws ds ∧ ds.length = (fldsN x).length
theorem ExV.to {K : PySem.W.Frag} {mg : Str → Option Value} {H H' : Hp} {v : V} {x : Str} {ds : List PyData} (h : ExV K mg H v x ds) (s : Same H H') : ExV K mg H' v x ds := by
  obtain ⟨a, C, dx, ws, e, m, xf, nf, h1, h2, al, l⟩ := h
  exact ⟨a, C, dx, ws, e, m, xf, nf, s _ _ h1, s _ _ h2, al.to s, l⟩
theorem exo_noP {a C : Addr} {d : Option Addr} : ¬ Plain (exo a C d) := fun p => p.1 _ rfl
theorem exd_noP {a : Addr} {fs : List (Str × V)} : ¬ Plain (exd a fs) := fun p => p.1 _ rfl
theorem newV_of {K : PySem.W.Frag} {mg : Str → Option Value} {x qual : Str} {st : Stmt} {ps fns fl : List Str} {C fI : Addr} {fd : FuncData} {n : Nat} {H : Hp} {vs : List V} {ds : List PyData} {P : Addr → Hp → Prop} (E : ErrC0 K mg x qual st ps fns C fI fd) (hf : fldsN x = fl) (hi : ∀ f ∈ Str.ofString "code" :: fl, f ∈ fns) (al : DaAll K H vs ds) (lv : ∀ d ∈ ds, LvN n d) (hl : ds.length = fl.length) (h3 : fl.length ≤ 1000)
    (q : ∀ v H', Same H H' → ExV K mg H' (.ref v) x ds → P v H') : vs.length ≤ 1000 ∧ ∀ a, H a = none → spInitN K x fl n (.ref a :: vs) (upd H a (exo a C none)) (fun v H2 => v = .non ∧ P a H2) E0 := by
  refine ⟨by rw [al.len, hl]; exact h3, fun a na => ⟨a, C, vs, ds, fun _ => False, rfl, fun _ z => z.elim, fun z => z, E.g, fun f hfm => E.nf _ (hi f hfm), upd_same, (al.to (same_new na)).to (fun b o e => by rw [hidS_out (fun z => z)]; exact e), lv, hl, fun H3 ws' dx keep al' nd ne ea ed => ⟨rfl, ?_⟩⟩⟩
  refine q _ _ (fun b o e => ?_) ⟨a, C, dx, ws', rfl, E.m, E.xf, fun f hfm => E.nf _ (hi f (by rw [← hf]; exact hfm)), ea, by rw [hf]; exact ed, al'.to hidS_same, by rw [hf]; exact hl⟩
  have nb : b ≠ a := fun z => by rw [z, na] at e; cases e
  exact keep b o nb (by rw [upd_ne nb]; exact e)
theorem newX_of {K : PySem.W.Frag} {mg : Str → Option Value} {x qual : Str} {st : Stmt} {ps fns fl : List Str} {C fI : Addr} {fd : FuncData} {n : Nat} {H : Hp} {vs : List V} {ds : List PyData} {S : Addr → Prop} {W : XK} (E : ErrC0 K mg x qual st ps fns C fI fd) (hi : ∀ f ∈ Str.ofString "code" :: fl, f ∈ fns) (hS : ∀ b, S b → H b ≠ none) (al : DaAll K (hidS S H) vs ds) (lv : ∀ d ∈ ds, LvN n d) (hl : ds.length = fl.length) (h3 : fl.length ≤ 1000)
    (q : ∀ (dx : Addr) (ws : List V) H', Same H H' → H' dx = some (.xd (flE x fl ws)) → DaAll K (hidS S H') ws ds → W (.ref C) (some dx) H') : vs.length ≤ 1000 ∧ ∀ a, H a = none → spInitN K x fl n (.ref a :: vs) (upd H a (exo a C none)) (fun v H2 => v = .non ∧ ∃ (d : Addr) (fs : List (Str × V)), H2 a = some (exo a C (some d)) ∧ H2 d = some (exd d fs) ∧ H d = none ∧ W (.ref C) (some d) (upd (del H2 a) d (.xd fs))) (fun _ _ _ => False) := by
  refine ⟨by rw [al.len, hl]; exact h3, fun a na => ⟨a, C, vs, ds, S, rfl, fun b hb => ?_, fun z => hS a z na, E.g, fun f hfm => E.nf _ (hi f hfm), upd_same, al.to (hidS_mono (same_new na)), lv, hl, fun H3 ws' dx keep al' nd ne ea ed => ?_⟩⟩
  · have nb : b ≠ a := fun z => hS b hb (z ▸ na)
    rw [upd_ne nb]
    exact hS b hb
  have ndH : H dx = none := by rw [upd_ne ne] at nd; exact nd
  refine ⟨rfl, dx, _, ea, ed, ndH, q dx ws' _ (fun b o e => ?_) upd_same (DaAll.keepD (keepD_hidS fun b o e p => ?_) _ _ al')⟩
  · have nb : b ≠ a := fun z => by rw [z, na] at e; cases e
    have nb2 : b ≠ dx := fun z => by rw [z, ndH] at e; cases e
    rw [upd_ne nb2, del_ne nb]
    exact keep b o nb (by rw [upd_ne nb]; exact e)
  · have nb : b ≠ a := fun z => by rw [z, ea] at e; cases e; exact exo_noP p
    have nb2 : b ≠ dx := fun z => by rw [z, ed] at e; cases e; exact exd_noP p
    rw [upd_ne nb2, del_ne nb]
    exact e
theorem hidA {K : PySem.W.Frag} {H H1 : Hp} {a C : Addr} {d : Option Addr} {S : Addr → Prop} (e : H a = some (exo a C d)) (kp : ∀ b o, b ≠ a → H b = some o → H1 b = some o) {v : V} {y : PyData} (r : Da K (hidS S H) v y) : Da K (hidS (fun b => S b ∨ b = a) H1) v y := r.kd fun b o e' p => by
  obtain ⟨h1, h2⟩ := hidS_some e'
  have nb : b ≠ a := fun z => by
    rw [z, e] at h2
    cases h2
    exact exo_noP p
  rw [hidS_out fun z => z.elim h1 nb]
  exact kp b o nb h2
theorem hidA_ne {H H1 : Hp} {a C : Addr} {d : Option Addr} {S : Addr → Prop} (hS : ∀ b, S b → H b ≠ none) (na : ¬ S a) (kp : ∀ b o, b ≠ a → H b = some o → H1 b = some o) (ea : H1 a = some (exo a C d)) (b : Addr) (h : S b ∨ b = a) : H1 b ≠ none := by
  rcases h with h | h
  · have nb : b ≠ a := fun z => na (z ▸ h)
    cases e : H b with
    | none => exact absurd e (hS b h)
    | some o => rw [kp b o nb e]; exact fun z => nomatch z
  · rw [h, ea]; exact fun z => nomatch z
theorem putA {H H1 H2 : Hp} {a C dx : Addr} {f : Str} {v : V} (hH : upd (upd H1 dx (exd dx [(f, v)])) a (exo a C (some dx)) = H2) (kp : ∀ b o, b ≠ a → H b = some o → H1 b = some o) (ea : H1 a = some (exo a C none)) (nd : H1 dx = none) (ne : dx ≠ a) :
    H2 dx = some (exd dx [(f, v)]) ∧ H2 a = some (exo a C (some dx)) ∧ (∀ b o, b ≠ a → H b = some o → H2 b = some o) ∧ KeepD H1 H2 ∧ H dx = none := by
  have hn : H dx = none := by
    cases e : H dx with
    | none => rfl
    | some o => rw [kp dx o ne e] at nd; cases nd
  refine ⟨by rw [← hH, upd_ne ne]; exact upd_same, by rw [← hH]; exact upd_same, fun b o nb e => ?_, fun b o e p => ?_, hn⟩
  · have nb2 : b ≠ dx := fun z => by rw [z, hn] at e; cases e
    rw [← hH, upd_ne nb, upd_ne nb2]
    exact kp b o nb e
  · have nb : b ≠ a := fun z => by rw [z, ea] at e; cases e; exact exo_noP p
    have nb2 : b ≠ dx := fun z => by rw [z, nd] at e; cases e
    rw [← hH, upd_ne nb, upd_ne nb2]
    exact e
theorem putB {H H1 H2 : Hp} {a C dx : Addr} {f : Str} {v : V} {fs : List (Str × V)} (hH : upd H1 dx (exd dx ((f, v) :: fs)) = H2) (kp : ∀ b o, b ≠ a → H b = some o → H1 b = some o) (ea : H1 a = some (exo a C (some dx))) (ed : H1 dx = some (exd dx fs)) (nd : H dx = none) (ne : dx ≠ a) :
    H2 dx = some (exd dx ((f, v) :: fs)) ∧ H2 a = some (exo a C (some dx)) ∧ (∀ b o, b ≠ a → H b = some o → H2 b = some o) ∧ KeepD H1 H2 := by
  refine ⟨by rw [← hH]; exact upd_same, by rw [← hH, upd_ne ne.symm]; exact ea, fun b o nb e => ?_, fun b o e p => ?_⟩
  · have nb2 : b ≠ dx := fun z => by rw [z, nd] at e; cases e
    rw [← hH, upd_ne nb2]
    exact kp b o nb e
  · have nb2 : b ≠ dx := fun z => by rw [z, ed] at e; cases e; exact exd_noP p
    rw [← hH, upd_ne nb2]
    exact e
theorem keep_kd {H H1 : Hp} {a C : Addr} {d : Option Addr} (ea : H a = some (exo a C d)) (kp : ∀ b o, b ≠ a → H b = some o → H1 b = some o) : KeepD H H1 := fun b o e p => kp b o (fun z => by rw [z, ea] at e; cases e; exact exo_noP p) e
/-- C(k = e, ..): what is bound -/
theorem kbE {K : PySem.W.Frag} {x qual : Str} {st : Stmt} {fI : Addr} {fd : FuncData} {ps ks : List Str} {g : List Value → List Value → List Value} (F : Fun K x qual st fI fd)
    (h : ∀ (kV doc pm : Value) (an : Option Addr) (cdv ct self : Value) (ws : List Value), (Value.ref 0 :: g [] ws).length = ps.length → bindArgs (PySem.W.fnOf x qual (defArgs st) (defBody st) (defScope st) .none kV doc pm an cdv ct) ⟨[self], ks.zip ws⟩ = pure (ps.zip (self :: g [] ws))) :
    ∀ (s : Shared) (self : Value) (ws : List Value), K.In s.heap → (Value.ref 0 :: g [] ws).length = ps.length → BindsTo s fd ⟨[self], ks.zip ws⟩ (ps.zip (self :: g [] ws)) := by
  obtain ⟨oc, od, kV, doc, pm, an, cdv, ct, osl, rfl, lk, hcd⟩ := F.ex
  exact fun s self ws _ hl => .of_eq (h kV doc pm an cdv ct self ws hl)
def g3c {α : Type} : List α → List α → List α
  | [], [c, a, b] => [a, b, c]
  | _, _ => []
theorem g3c_rel {vs : List V} {us : List Value} {zs : List V} {ws : List Value} (r1 : Vals vs us) (r2 : Vals zs ws) : Vals (g3c vs zs) (g3c us ws) := by
  match vs, us, zs, ws, r1, r2 with
  | [], [], [], [], _, _ => exact .nil
  | [], [], [_], [_], _, _ => exact .nil
  | [], [], [_, _], [_, _], _, _ => exact .nil
  | [], [], [_, _, _], [_, _, _], _, .cons a (.cons b (.cons c .nil)) => exact .cons b (.cons c (.cons a .nil))
  | [], [], _ :: _ :: _ :: _ :: _, _ :: _ :: _ :: _ :: _, _, _ => exact .nil
  | _ :: _, _ :: _, [], [], _, _ => exact .nil
  | _ :: _, _ :: _, _ :: _, _ :: _, _, _ => exact .nil
section
variable {P : Program} {w : World} {K : PySem.W.Frag} {mg : Str → Option Value} {base : Heap} {CB : Addr}
theorem has_c_InvalidName_init {fI : Addr} {fd : FuncData} (Z : Zs mg) (F : Fun K "__init__" "InvalidName.__init__" s_c_InvalidName_init fI fd) (h_p_copied : Has P w K mg base "copied" s_p_copied 6 ["value"] (spCopy K 6)) : FnOk P w K mg base CX0 7 fI fd ["self", "value"] (spInitN K "InvalidName" ["value"] 6) := by
  obtain ⟨f_p_copied, fd_p_copied, G_p_copied, m_p_copied, k_p_copied, b_p_copied, F_p_copied⟩ := h_p_copied
  refine F.ok sc_c_InvalidName_init (fun vs H Q E h => ?_) (fun cdv A outer s H vs Q E hr h => ?_)
  · obtain ⟨a, C, ws, ds, S, rfl, _, _, _, _, _, al, _, hl, _⟩ := h
    show ws.length + 1 = _
    rw [al.len, hl]
    rfl
  · obtain ⟨a, C, ws, ds, S, rfl, hS, na, G, nf, ea, al, lv, hl, q⟩ := h
    obtain ⟨d0, rfl⟩ : ∃ (d0 : PyData), ds = [d0] := match ds, hl with | [d0], _ => ⟨d0, rfl⟩
    obtain ⟨w0, rfl, r0⟩ : ∃ (w0 : V), ws = [w0] ∧ Da K (hidS S H) w0 d0 := by
      cases al with
      | cons r0 al =>
        cases al
        exact ⟨_, rfl, r0⟩
    refine ⟨_, (pss_cons (ps_put (pv 0) (pe_call G_p_copied (hr.mono (by decide)) (by rfl) m_p_copied k_p_copied b_p_copied .nil pass0 (pa_cons (pv 1) pa_nil))) (pss_one (ps_put (pv 0) pe_str))), ?_⟩
    have kp : ∀ b o, b ≠ a → H b = some o → H b = some o := fun _ _ _ e => e
    have ea0 := ea
    refine ⟨_, rfl, w0, d0, fun b => S b ∨ b = a, rfl, hidA_ne hS na kp ea, hidA ea0 kp r0, lv d0 (by simp), fun v0 C0 s0 z0 => ?_⟩
    have z0 := z0.to hidS_less
    have ea := s0 _ _ ea
    have kp : ∀ b o, b ≠ a → H b = some o → C0 b = some o := fun b o nb e => s0 _ _ (kp b o nb e)
    refine ⟨_, rfl, a, C, rfl, G, nf _ (by simp), .inl ⟨ea, fun dx nd ne => ?_⟩⟩
    generalize hP : upd (upd C0 dx (exd dx [(Str.ofString "value", v0)])) a (exo a C (some dx)) = P0
    obtain ⟨ed, ea, kp, kd, ndH⟩ := putA hP kp ea nd ne
    clear hP
    have z0 := z0.kd (keepD_hidS kd)
    refine ⟨_, rfl, a, C, rfl, G, nf _ (by simp), .inr ⟨dx, [(Str.ofString "value", v0)], ea, ed, (by show 1 ≤ 900; decide), ?_⟩⟩
    generalize hP : upd P0 dx (exd dx ((Str.ofString "code", V.str (Str.ofString "InvalidName")) :: [(Str.ofString "value", v0)])) = P9
    obtain ⟨ed, ea, kp, kd⟩ := putB hP kp ea ed ndH ne
    clear hP
    have z0 := z0.kd (keepD_hidS kd)
    exact q _ [v0] dx kp (.cons z0 .nil) ndH ne ea ed
end
end Th
namespace Th
open PySem PySem.Spec PyProof.Rows L2
theorem sc_c_InvalidLot_init : FnScope ["self", "at"] ["self", "at"] (defScope s_c_InvalidLot_init) := ⟨rfl, rfl, rfl, by decide +kernel, rfl, by decide +kernel, by decide +kernel⟩

section
variable {P : Program} {w : World} {K : PySem.W.Frag} {mg : Str → Option Value} {base : Heap} {CB : Addr}
theorem has_c_InvalidLot_init {fI : Addr} {fd : FuncData} (Z : Zs mg) (F : Fun K "__init__" "InvalidLot.__init__" s_c_InvalidLot_init fI fd) (h_p_copied : Has P w K mg base "copied" s_p_copied 6 ["value"] (spCopy K 6)) : FnOk P w K mg base CX0 7 fI fd ["self", "at"] (spInitN K "InvalidLot" ["at"] 6) := by
  obtain ⟨f_p_copied, fd_p_copied, G_p_copied, m_p_copied, k_p_copied, b_p_copied, F_p_copied⟩ := h_p_copied
  refine F.ok sc_c_InvalidLot_init (fun vs H Q E h => ?_) (fun cdv A outer s H vs Q E hr h => ?_)
  · obtain ⟨a, C, ws, ds, S, rfl, _, _, _, _, _, al, _, hl, _⟩ := h
    show ws.length + 1 = _
    rw [al.len, hl]
    rfl
  · obtain ⟨a, C, ws, ds, S, rfl, hS, na, G, nf, ea, al, lv, hl, q⟩ := h
    obtain ⟨d0, rfl⟩ : ∃ (d0 : PyData), ds = [d0] := match ds, hl with | [d0], _ => ⟨d0, rfl⟩
    obtain ⟨w0, rfl, r0⟩ : ∃ (w0 : V), ws = [w0] ∧ Da K (hidS S H) w0 d0 := by
      cases al with
      | cons r0 al =>
        cases al
        exact ⟨_, rfl, r0⟩
    refine ⟨_, (pss_cons (ps_put (pv 0) (pe_call G_p_copied (hr.mono (by decide)) (by rfl) m_p_copied k_p_copied b_p_copied .nil pass0 (pa_cons (pv 1) pa_nil))) (pss_one (ps_put (pv 0) pe_str))), ?_⟩
    have kp : ∀ b o, b ≠ a → H b = some o → H b = some o := fun _ _ _ e => e
    have ea0 := ea
    refine ⟨_, rfl, w0, d0, fun b => S b ∨ b = a, rfl, hidA_ne hS na kp ea, hidA ea0 kp r0, lv d0 (by simp), fun v0 C0 s0 z0 => ?_⟩
    have z0 := z0.to hidS_less
    have ea := s0 _ _ ea
    have kp : ∀ b o, b ≠ a → H b = some o → C0 b = some o := fun b o nb e => s0 _ _ (kp b o nb e)
    refine ⟨_, rfl, a, C, rfl, G, nf _ (by simp), .inl ⟨ea, fun dx nd ne => ?_⟩⟩
    generalize hP : upd (upd C0 dx (exd dx [(Str.ofString "at", v0)])) a (exo a C (some dx)) = P0
    obtain ⟨ed, ea, kp, kd, ndH⟩ := putA hP kp ea nd ne
    clear hP
    have z0 := z0.kd (keepD_hidS kd)
    refine ⟨_, rfl, a, C, rfl, G, nf _ (by simp), .inr ⟨dx, [(Str.ofString "at", v0)], ea, ed, (by show 1 ≤ 900; decide), ?_⟩⟩
    generalize hP : upd P0 dx (exd dx ((Str.ofString "code", V.str (Str.ofString "InvalidLot")) :: [(Str.ofString "at", v0)])) = P9
    obtain ⟨ed, ea, kp, kd⟩ := putB hP kp ea ed ndH ne
    clear hP
    have z0 := z0.kd (keepD_hidS kd)
    exact q _ [v0] dx kp (.cons z0 .nil) ndH ne ea ed
end
end Th
namespace Th
open PySem PySem.Spec PyProof.Rows L2
theorem sc_c_InvalidFind_init : FnScope ["self", "at"] ["self", "at"] (defScope s_c_InvalidFind_init) := ⟨rfl, rfl, rfl, by decide +kernel, rfl, by decide +kernel, by decide +kernel⟩

section
variable {P : Program} {w : World} {K : PySem.W.Frag} {mg : Str → Option Value} {base : Heap} {CB : Addr}
theorem has_c_InvalidFind_init {fI : Addr} {fd : FuncData} (Z : Zs mg) (F : Fun K "__init__" "InvalidFind.__init__" s_c_InvalidFind_init fI fd) (h_p_copied : Has P w K mg base "copied" s_p_copied 6 ["value"] (spCopy K 6)) : FnOk P w K mg base CX0 7 fI fd ["self", "at"] (spInitN K "InvalidFind" ["at"] 6) := by
  obtain ⟨f_p_copied, fd_p_copied, G_p_copied, m_p_copied, k_p_copied, b_p_copied, F_p_copied⟩ := h_p_copied
  refine F.ok sc_c_InvalidFind_init (fun vs H Q E h => ?_) (fun cdv A outer s H vs Q E hr h => ?_)
  · obtain ⟨a, C, ws, ds, S, rfl, _, _, _, _, _, al, _, hl, _⟩ := h
    show ws.length + 1 = _
    rw [al.len, hl]
    rfl
  · obtain ⟨a, C, ws, ds, S, rfl, hS, na, G, nf, ea, al, lv, hl, q⟩ := h
    obtain ⟨d0, rfl⟩ : ∃ (d0 : PyData), ds = [d0] := match ds, hl with | [d0], _ => ⟨d0, rfl⟩
    obtain ⟨w0, rfl, r0⟩ : ∃ (w0 : V), ws = [w0] ∧ Da K (hidS S H) w0 d0 := by
      cases al with
      | cons r0 al =>
        cases al
        exact ⟨_, rfl, r0⟩
    refine ⟨_, (pss_cons (ps_put (pv 0) (pe_call G_p_copied (hr.mono (by decide)) (by rfl) m_p_copied k_p_copied b_p_copied .nil pass0 (pa_cons (pv 1) pa_nil))) (pss_one (ps_put (pv 0) pe_str))), ?_⟩
    have kp : ∀ b o, b ≠ a → H b = some o → H b = some o := fun _ _ _ e => e
    have ea0 := ea
    refine ⟨_, rfl, w0, d0, fun b => S b ∨ b = a, rfl, hidA_ne hS na kp ea, hidA ea0 kp r0, lv d0 (by simp), fun v0 C0 s0 z0 => ?_⟩
    have z0 := z0.to hidS_less
    have ea := s0 _ _ ea
    have kp : ∀ b o, b ≠ a → H b = some o → C0 b = some o := fun b o nb e => s0 _ _ (kp b o nb e)
    refine ⟨_, rfl, a, C, rfl, G, nf _ (by simp), .inl ⟨ea, fun dx nd ne => ?_⟩⟩
    generalize hP : upd (upd C0 dx (exd dx [(Str.ofString "at", v0)])) a (exo a C (some dx)) = P0
    obtain ⟨ed, ea, kp, kd, ndH⟩ := putA hP kp ea nd ne
    clear hP
    have z0 := z0.kd (keepD_hidS kd)
    refine ⟨_, rfl, a, C, rfl, G, nf _ (by simp), .inr ⟨dx, [(Str.ofString "at", v0)], ea, ed, (by show 1 ≤ 900; decide), ?_⟩⟩
    generalize hP : upd P0 dx (exd dx ((Str.ofString "code", V.str (Str.ofString "InvalidFind")) :: [(Str.ofString "at", v0)])) = P9
    obtain ⟨ed, ea, kp, kd⟩ := putB hP kp ea ed ndH ne
    clear hP
    have z0 := z0.kd (keepD_hidS kd)
    exact q _ [v0] dx kp (.cons z0 .nil) ndH ne ea ed
end
end Th
namespace Th
open PySem PySem.Spec PyProof.Rows L2
theorem sc_c_InvalidWord_init : FnScope ["self", "at"] ["self", "at"] (defScope s_c_InvalidWord_init) := ⟨rfl, rfl, rfl, by decide +kernel, rfl, by decide +kernel, by decide +kernel⟩

section
variable {P : Program} {w : World} {K : PySem.W.Frag} {mg : Str → Option Value} {base : Heap} {CB : Addr}
theorem has_c_InvalidWord_init {fI : Addr} {fd : FuncData} (Z : Zs mg) (F : Fun K "__init__" "InvalidWord.__init__" s_c_InvalidWord_init fI fd) (h_p_copied : Has P w K mg base "copied" s_p_copied 6 ["value"] (spCopy K 6)) : FnOk P w K mg base CX0 7 fI fd ["self", "at"] (spInitN K "InvalidWord" ["at"] 6) := by
  obtain ⟨f_p_copied, fd_p_copied, G_p_copied, m_p_copied, k_p_copied, b_p_copied, F_p_copied⟩ := h_p_copied
  refine F.ok sc_c_InvalidWord_init (fun vs H Q E h => ?_) (fun cdv A outer s H vs Q E hr h => ?_)
  · obtain ⟨a, C, ws, ds, S, rfl, _, _, _, _, _, al, _, hl, _⟩ := h
    show ws.length + 1 = _
    rw [al.len, hl]
    rfl
  · obtain ⟨a, C, ws, ds, S, rfl, hS, na, G, nf, ea, al, lv, hl, q⟩ := h
    obtain ⟨d0, rfl⟩ : ∃ (d0 : PyData), ds = [d0] := match ds, hl with | [d0], _ => ⟨d0, rfl⟩
    obtain ⟨w0, rfl, r0⟩ : ∃ (w0 : V), ws = [w0] ∧ Da K (hidS S H) w0 d0 := by
      cases al with
      | cons r0 al =>
        cases al
        exact ⟨_, rfl, r0⟩
    refine ⟨_, (pss_cons (ps_put (pv 0) (pe_call G_p_copied (hr.mono (by decide)) (by rfl) m_p_copied k_p_copied b_p_copied .nil pass0 (pa_cons (pv 1) pa_nil))) (pss_one (ps_put (pv 0) pe_str))), ?_⟩
    have kp : ∀ b o, b ≠ a → H b = some o → H b = some o := fun _ _ _ e => e
    have ea0 := ea
    refine ⟨_, rfl, w0, d0, fun b => S b ∨ b = a, rfl, hidA_ne hS na kp ea, hidA ea0 kp r0, lv d0 (by simp), fun v0 C0 s0 z0 => ?_⟩
    have z0 := z0.to hidS_less
    have ea := s0 _ _ ea
    have kp : ∀ b o, b ≠ a → H b = some o → C0 b = some o := fun b o nb e => s0 _ _ (kp b o nb e)
    refine ⟨_, rfl, a, C, rfl, G, nf _ (by simp), .inl ⟨ea, fun dx nd ne => ?_⟩⟩
    generalize hP : upd (upd C0 dx (exd dx [(Str.ofString "at", v0)])) a (exo a C (some dx)) = P0
    obtain ⟨ed, ea, kp, kd, ndH⟩ := putA hP kp ea nd ne
    clear hP
    have z0 := z0.kd (keepD_hidS kd)
    refine ⟨_, rfl, a, C, rfl, G, nf _ (by simp), .inr ⟨dx, [(Str.ofString "at", v0)], ea, ed, (by show 1 ≤ 900; decide), ?_⟩⟩
    generalize hP : upd P0 dx (exd dx ((Str.ofString "code", V.str (Str.ofString "InvalidWord")) :: [(Str.ofString "at", v0)])) = P9
    obtain ⟨ed, ea, kp, kd⟩ := putB hP kp ea ed ndH ne
    clear hP
    have z0 := z0.kd (keepD_hidS kd)
    exact q _ [v0] dx kp (.cons z0 .nil) ndH ne ea ed
end
end Th
namespace Th
open PySem PySem.Spec PyProof.Rows L2
theorem sc_c_InvalidFact_init : FnScope ["self", "at"] ["self", "at"] (defScope s_c_InvalidFact_init) := ⟨rfl, rfl, rfl, by decide +kernel, rfl, by decide +kernel, by decide +kernel⟩

section
variable {P : Program} {w : World} {K : PySem.W.Frag} {mg : Str → Option Value} {base : Heap} {CB : Addr}
theorem has_c_InvalidFact_init {fI : Addr} {fd : FuncData} (Z : Zs mg) (F : Fun K "__init__" "InvalidFact.__init__" s_c_InvalidFact_init fI fd) (h_p_copied : Has P w K mg base "copied" s_p_copied 6 ["value"] (spCopy K 6)) : FnOk P w K mg base CX0 7 fI fd ["self", "at"] (spInitN K "InvalidFact" ["at"] 6) := by
  obtain ⟨f_p_copied, fd_p_copied, G_p_copied, m_p_copied, k_p_copied, b_p_copied, F_p_copied⟩ := h_p_copied
  refine F.ok sc_c_InvalidFact_init (fun vs H Q E h => ?_) (fun cdv A outer s H vs Q E hr h => ?_)
  · obtain ⟨a, C, ws, ds, S, rfl, _, _, _, _, _, al, _, hl, _⟩ := h
    show ws.length + 1 = _
    rw [al.len, hl]
    rfl
  · obtain ⟨a, C, ws, ds, S, rfl, hS, na, G, nf, ea, al, lv, hl, q⟩ := h
    obtain ⟨d0, rfl⟩ : ∃ (d0 : PyData), ds = [d0] := match ds, hl with | [d0], _ => ⟨d0, rfl⟩
    obtain ⟨w0, rfl, r0⟩ : ∃ (w0 : V), ws = [w0] ∧ Da K (hidS S H) w0 d0 := by
      cases al with
      | cons r0 al =>
        cases al
        exact ⟨_, rfl, r0⟩
    refine ⟨_, (pss_cons (ps_put (pv 0) (pe_call G_p_copied (hr.mono (by decide)) (by rfl) m_p_copied k_p_copied b_p_copied .nil pass0 (pa_cons (pv 1) pa_nil))) (pss_one (ps_put (pv 0) pe_str))), ?_⟩
    have kp : ∀ b o, b ≠ a → H b = some o → H b = some o := fun _ _ _ e => e
    have ea0 := ea
    refine ⟨_, rfl, w0, d0, fun b => S b ∨ b = a, rfl, hidA_ne hS na kp ea, hidA ea0 kp r0, lv d0 (by simp), fun v0 C0 s0 z0 => ?_⟩
    have z0 := z0.to hidS_less
    have ea := s0 _ _ ea
    have kp : ∀ b o, b ≠ a → H b = some o → C0 b = some o := fun b o nb e => s0 _ _ (kp b o nb e)
    refine ⟨_, rfl, a, C, rfl, G, nf _ (by simp), .inl ⟨ea, fun dx nd ne => ?_⟩⟩
    generalize hP : upd (upd C0 dx (exd dx [(Str.ofString "at", v0)])) a (exo a C (some dx)) = P0
    obtain ⟨ed, ea, kp, kd, ndH⟩ := putA hP kp ea nd ne
    clear hP
    have z0 := z0.kd (keepD_hidS kd)
    refine ⟨_, rfl, a, C, rfl, G, nf _ (by simp), .inr ⟨dx, [(Str.ofString "at", v0)], ea, ed, (by show 1 ≤ 900; decide), ?_⟩⟩
    generalize hP : upd P0 dx (exd dx ((Str.ofString "code", V.str (Str.ofString "InvalidFact")) :: [(Str.ofString "at", v0)])) = P9
    obtain ⟨ed, ea, kp, kd⟩ := putB hP kp ea ed ndH ne
    clear hP
    have z0 := z0.kd (keepD_hidS kd)
    exact q _ [v0] dx kp (.cons z0 .nil) ndH ne ea ed
end
end Th
namespace Th
open PySem PySem.Spec PyProof.Rows L2
theorem sc_c_InvalidOrder_init : FnScope ["self", "at"] ["self", "at"] (defScope s_c_InvalidOrder_init) := ⟨rfl, rfl, rfl, by decide +kernel, rfl, by decide +kernel, by decide +kernel⟩

section
variable {P : Program} {w : World} {K : PySem.W.Frag} {mg : Str → Option Value} {base : Heap} {CB : Addr}
theorem has_c_InvalidOrder_init {fI : Addr} {fd : FuncData} (Z : Zs mg) (F : Fun K "__init__" "InvalidOrder.__init__" s_c_InvalidOrder_init fI fd) (h_p_copied : Has P w K mg base "copied" s_p_copied 6 ["value"] (spCopy K 6)) : FnOk P w K mg base CX0 7 fI fd ["self", "at"] (spInitN K "InvalidOrder" ["at"] 6) := by
  obtain ⟨f_p_copied, fd_p_copied, G_p_copied, m_p_copied, k_p_copied, b_p_copied, F_p_copied⟩ := h_p_copied
  refine F.ok sc_c_InvalidOrder_init (fun vs H Q E h => ?_) (fun cdv A outer s H vs Q E hr h => ?_)
  · obtain ⟨a, C, ws, ds, S, rfl, _, _, _, _, _, al, _, hl, _⟩ := h
    show ws.length + 1 = _
    rw [al.len, hl]
    rfl
  · obtain ⟨a, C, ws, ds, S, rfl, hS, na, G, nf, ea, al, lv, hl, q⟩ := h
    obtain ⟨d0, rfl⟩ : ∃ (d0 : PyData), ds = [d0] := match ds, hl with | [d0], _ => ⟨d0, rfl⟩
    obtain ⟨w0, rfl, r0⟩ : ∃ (w0 : V), ws = [w0] ∧ Da K (hidS S H) w0 d0 := by
      cases al with
      | cons r0 al =>
        cases al
        exact ⟨_, rfl, r0⟩
    refine ⟨_, (pss_cons (ps_put (pv 0) (pe_call G_p_copied (hr.mono (by decide)) (by rfl) m_p_copied k_p_copied b_p_copied .nil pass0 (pa_cons (pv 1) pa_nil))) (pss_one (ps_put (pv 0) pe_str))), ?_⟩
    have kp : ∀ b o, b ≠ a → H b = some o → H b = some o := fun _ _ _ e => e
    have ea0 := ea
    refine ⟨_, rfl, w0, d0, fun b => S b ∨ b = a, rfl, hidA_ne hS na kp ea, hidA ea0 kp r0, lv d0 (by simp), fun v0 C0 s0 z0 => ?_⟩
    have z0 := z0.to hidS_less
    have ea := s0 _ _ ea
    have kp : ∀ b o, b ≠ a → H b = some o → C0 b = some o := fun b o nb e => s0 _ _ (kp b o nb e)
    refine ⟨_, rfl, a, C, rfl, G, nf _ (by simp), .inl ⟨ea, fun dx nd ne => ?_⟩⟩
    generalize hP : upd (upd C0 dx (exd dx [(Str.ofString "at", v0)])) a (exo a C (some dx)) = P0
    obtain ⟨ed, ea, kp, kd, ndH⟩ := putA hP kp ea nd ne
    clear hP
    have z0 := z0.kd (keepD_hidS kd)
    refine ⟨_, rfl, a, C, rfl, G, nf _ (by simp), .inr ⟨dx, [(Str.ofString "at", v0)], ea, ed, (by show 1 ≤ 900; decide), ?_⟩⟩
    generalize hP : upd P0 dx (exd dx ((Str.ofString "code", V.str (Str.ofString "InvalidOrder")) :: [(Str.ofString "at", v0)])) = P9
    obtain ⟨ed, ea, kp, kd⟩ := putB hP kp ea ed ndH ne
    clear hP
    have z0 := z0.kd (keepD_hidS kd)
    exact q _ [v0] dx kp (.cons z0 .nil) ndH ne ea ed
end
end Th
namespace Th
open PySem PySem.Spec PyProof.Rows L2
theorem sc_c_InvalidKind_init : FnScope ["self", "at"] ["self", "at"] (defScope s_c_InvalidKind_init) := ⟨rfl, rfl, rfl, by decide +kernel, rfl, by decide +kernel, by decide +kernel⟩

section
variable {P : Program} {w : World} {K : PySem.W.Frag} {mg : Str → Option Value} {base : Heap} {CB : Addr}
theorem has_c_InvalidKind_init {fI : Addr} {fd : FuncData} (Z : Zs mg) (F : Fun K "__init__" "InvalidKind.__init__" s_c_InvalidKind_init fI fd) (h_p_copied : Has P w K mg base "copied" s_p_copied 6 ["value"] (spCopy K 6)) : FnOk P w K mg base CX0 7 fI fd ["self", "at"] (spInitN K "InvalidKind" ["at"] 6) := by
  obtain ⟨f_p_copied, fd_p_copied, G_p_copied, m_p_copied, k_p_copied, b_p_copied, F_p_copied⟩ := h_p_copied
  refine F.ok sc_c_InvalidKind_init (fun vs H Q E h => ?_) (fun cdv A outer s H vs Q E hr h => ?_)
  · obtain ⟨a, C, ws, ds, S, rfl, _, _, _, _, _, al, _, hl, _⟩ := h
    show ws.length + 1 = _
    rw [al.len, hl]
    rfl
  · obtain ⟨a, C, ws, ds, S, rfl, hS, na, G, nf, ea, al, lv, hl, q⟩ := h
    obtain ⟨d0, rfl⟩ : ∃ (d0 : PyData), ds = [d0] := match ds, hl with | [d0], _ => ⟨d0, rfl⟩
    obtain ⟨w0, rfl, r0⟩ : ∃ (w0 : V), ws = [w0] ∧ Da K (hidS S H) w0 d0 := by
      cases al with
      | cons r0 al =>
        cases al
        exact ⟨_, rfl, r0⟩
    refine ⟨_, (pss_cons (ps_put (pv 0) (pe_call G_p_copied (hr.mono (by decide)) (by rfl) m_p_copied k_p_copied b_p_copied .nil pass0 (pa_cons (pv 1) pa_nil))) (pss_one (ps_put (pv 0) pe_str))), ?_⟩
    have kp : ∀ b o, b ≠ a → H b = some o → H b = some o := fun _ _ _ e => e
    have ea0 := ea
    refine ⟨_, rfl, w0, d0, fun b => S b ∨ b = a, rfl, hidA_ne hS na kp ea, hidA ea0 kp r0, lv d0 (by simp), fun v0 C0 s0 z0 => ?_⟩
    have z0 := z0.to hidS_less
    have ea := s0 _ _ ea
    have kp : ∀ b o, b ≠ a → H b = some o → C0 b = some o := fun b o nb e => s0 _ _ (kp b o nb e)
    refine ⟨_, rfl, a, C, rfl, G, nf _ (by simp), .inl ⟨ea, fun dx nd ne => ?_⟩⟩
    generalize hP : upd (upd C0 dx (exd dx [(Str.ofString "at", v0)])) a (exo a C (some dx)) = P0
    obtain ⟨ed, ea, kp, kd, ndH⟩ := putA hP kp ea nd ne
    clear hP
    have z0 := z0.kd (keepD_hidS kd)
    refine ⟨_, rfl, a, C, rfl, G, nf _ (by simp), .inr ⟨dx, [(Str.ofString "at", v0)], ea, ed, (by show 1 ≤ 900; decide), ?_⟩⟩
    generalize hP : upd P0 dx (exd dx ((Str.ofString "code", V.str (Str.ofString "InvalidKind")) :: [(Str.ofString "at", v0)])) = P9
    obtain ⟨ed, ea, kp, kd⟩ := putB hP kp ea ed ndH ne
    clear hP
    have z0 := z0.kd (keepD_hidS kd)
    exact q _ [v0] dx kp (.cons z0 .nil) ndH ne ea ed
end
end Th
namespace Th
open PySem PySem.Spec PyProof.Rows L2
theorem sc_c_InvalidPair_init : FnScope ["self", "at"] ["self", "at"] (defScope s_c_InvalidPair_init) := ⟨rfl, rfl, rfl, by decide +kernel, rfl, by decide +kernel, by decide +kernel⟩

section
variable {P : Program} {w : World} {K : PySem.W.Frag} {mg : Str → Option Value} {base : Heap} {CB : Addr}
theorem has_c_InvalidPair_init {fI : Addr} {fd : FuncData} (Z : Zs mg) (F : Fun K "__init__" "InvalidPair.__init__" s_c_InvalidPair_init fI fd) (h_p_copied : Has P w K mg base "copied" s_p_copied 6 ["value"] (spCopy K 6)) : FnOk P w K mg base CX0 7 fI fd ["self", "at"] (spInitN K "InvalidPair" ["at"] 6) := by
  obtain ⟨f_p_copied, fd_p_copied, G_p_copied, m_p_copied, k_p_copied, b_p_copied, F_p_copied⟩ := h_p_copied
  refine F.ok sc_c_InvalidPair_init (fun vs H Q E h => ?_) (fun cdv A outer s H vs Q E hr h => ?_)
  · obtain ⟨a, C, ws, ds, S, rfl, _, _, _, _, _, al, _, hl, _⟩ := h
    show ws.length + 1 = _
    rw [al.len, hl]
    rfl
  · obtain ⟨a, C, ws, ds, S, rfl, hS, na, G, nf, ea, al, lv, hl, q⟩ := h
    obtain ⟨d0, rfl⟩ : ∃ (d0 : PyData), ds = [d0] := match ds, hl with | [d0], _ => ⟨d0, rfl⟩
    obtain ⟨w0, rfl, r0⟩ : ∃ (w0 : V), ws = [w0] ∧ Da K (hidS S H) w0 d0 := by
      cases al with
      | cons r0 al =>
        cases al
        exact ⟨_, rfl, r0⟩
    refine ⟨_, (pss_cons (ps_put (pv 0) (pe_call G_p_copied (hr.mono (by decide)) (by rfl) m_p_copied k_p_copied b_p_copied .nil pass0 (pa_cons (pv 1) pa_nil))) (pss_one (ps_put (pv 0) pe_str))), ?_⟩
    have kp : ∀ b o, b ≠ a → H b = some o → H b = some o := fun _ _ _ e => e
    have ea0 := ea
    refine ⟨_, rfl, w0, d0, fun b => S b ∨ b = a, rfl, hidA_ne hS na kp ea, hidA ea0 kp r0, lv d0 (by simp), fun v0 C0 s0 z0 => ?_⟩
    have z0 := z0.to hidS_less
    have ea := s0 _ _ ea
    have kp : ∀ b o, b ≠ a → H b = some o → C0 b = some o := fun b o nb e => s0 _ _ (kp b o nb e)
    refine ⟨_, rfl, a, C, rfl, G, nf _ (by simp), .inl ⟨ea, fun dx nd ne => ?_⟩⟩
    generalize hP : upd (upd C0 dx (exd dx [(Str.ofString "at", v0)])) a (exo a C (some dx)) = P0
    obtain ⟨ed, ea, kp, kd, ndH⟩ := putA hP kp ea nd ne
    clear hP
    have z0 := z0.kd (keepD_hidS kd)
    refine ⟨_, rfl, a, C, rfl, G, nf _ (by simp), .inr ⟨dx, [(Str.ofString "at", v0)], ea, ed, (by show 1 ≤ 900; decide), ?_⟩⟩
    generalize hP : upd P0 dx (exd dx ((Str.ofString "code", V.str (Str.ofString "InvalidPair")) :: [(Str.ofString "at", v0)])) = P9
    obtain ⟨ed, ea, kp, kd⟩ := putB hP kp ea ed ndH ne
    clear hP
    have z0 := z0.kd (keepD_hidS kd)
    exact q _ [v0] dx kp (.cons z0 .nil) ndH ne ea ed
end
end Th
namespace Th
open PySem PySem.Spec PyProof.Rows L2
theorem sc_c_InvalidDeed_init : FnScope ["self", "at"] ["self", "at"] (defScope s_c_InvalidDeed_init) := ⟨rfl, rfl, rfl, by decide +kernel, rfl, by decide +kernel, by decide +kernel⟩

section
variable {P : Program} {w : World} {K : PySem.W.Frag} {mg : Str → Option Value} {base : Heap} {CB : Addr}
theorem has_c_InvalidDeed_init {fI : Addr} {fd : FuncData} (Z : Zs mg) (F : Fun K "__init__" "InvalidDeed.__init__" s_c_InvalidDeed_init fI fd) (h_p_copied : Has P w K mg base "copied" s_p_copied 6 ["value"] (spCopy K 6)) : FnOk P w K mg base CX0 7 fI fd ["self", "at"] (spInitN K "InvalidDeed" ["at"] 6) := by
  obtain ⟨f_p_copied, fd_p_copied, G_p_copied, m_p_copied, k_p_copied, b_p_copied, F_p_copied⟩ := h_p_copied
  refine F.ok sc_c_InvalidDeed_init (fun vs H Q E h => ?_) (fun cdv A outer s H vs Q E hr h => ?_)
  · obtain ⟨a, C, ws, ds, S, rfl, _, _, _, _, _, al, _, hl, _⟩ := h
    show ws.length + 1 = _
    rw [al.len, hl]
    rfl
  · obtain ⟨a, C, ws, ds, S, rfl, hS, na, G, nf, ea, al, lv, hl, q⟩ := h
    obtain ⟨d0, rfl⟩ : ∃ (d0 : PyData), ds = [d0] := match ds, hl with | [d0], _ => ⟨d0, rfl⟩
    obtain ⟨w0, rfl, r0⟩ : ∃ (w0 : V), ws = [w0] ∧ Da K (hidS S H) w0 d0 := by
      cases al with
      | cons r0 al =>
        cases al
        exact ⟨_, rfl, r0⟩
    refine ⟨_, (pss_cons (ps_put (pv 0) (pe_call G_p_copied (hr.mono (by decide)) (by rfl) m_p_copied k_p_copied b_p_copied .nil pass0 (pa_cons (pv 1) pa_nil))) (pss_one (ps_put (pv 0) pe_str))), ?_⟩
    have kp : ∀ b o, b ≠ a → H b = some o → H b = some o := fun _ _ _ e => e
    have ea0 := ea
    refine ⟨_, rfl, w0, d0, fun b => S b ∨ b = a, rfl, hidA_ne hS na kp ea, hidA ea0 kp r0, lv d0 (by simp), fun v0 C0 s0 z0 => ?_⟩
    have z0 := z0.to hidS_less
    have ea := s0 _ _ ea
    have kp : ∀ b o, b ≠ a → H b = some o → C0 b = some o := fun b o nb e => s0 _ _ (kp b o nb e)
    refine ⟨_, rfl, a, C, rfl, G, nf _ (by simp), .inl ⟨ea, fun dx nd ne => ?_⟩⟩
    generalize hP : upd (upd C0 dx (exd dx [(Str.ofString "at", v0)])) a (exo a C (some dx)) = P0
    obtain ⟨ed, ea, kp, kd, ndH⟩ := putA hP kp ea nd ne
    clear hP
    have z0 := z0.kd (keepD_hidS kd)
    refine ⟨_, rfl, a, C, rfl, G, nf _ (by simp), .inr ⟨dx, [(Str.ofString "at", v0)], ea, ed, (by show 1 ≤ 900; decide), ?_⟩⟩
    generalize hP : upd P0 dx (exd dx ((Str.ofString "code", V.str (Str.ofString "InvalidDeed")) :: [(Str.ofString "at", v0)])) = P9
    obtain ⟨ed, ea, kp, kd⟩ := putB hP kp ea ed ndH ne
    clear hP
    have z0 := z0.kd (keepD_hidS kd)
    exact q _ [v0] dx kp (.cons z0 .nil) ndH ne ea ed
end
end Th
namespace Th
open PySem PySem.Spec PyProof.Rows L2
theorem sc_c_InvalidText_init : FnScope ["self", "line", "why"] ["self", "line", "why"] (defScope s_c_InvalidText_init) := ⟨rfl, rfl, rfl, by decide +kernel, rfl, by decide +kernel, by decide +kernel⟩

section
variable {P : Program} {w : World} {K : PySem.W.Frag} {mg : Str → Option Value} {base : Heap} {CB : Addr}
theorem has_c_InvalidText_init {fI : Addr} {fd : FuncData} (Z : Zs mg) (F : Fun K "__init__" "InvalidText.__init__" s_c_InvalidText_init fI fd) (h_p_copied : Has P w K mg base "copied" s_p_copied 6 ["value"] (spCopy K 6)) : FnOk P w K mg base CX0 7 fI fd ["self", "line", "why"] (spInitN K "InvalidText" ["line", "why"] 6) := by
  obtain ⟨f_p_copied, fd_p_copied, G_p_copied, m_p_copied, k_p_copied, b_p_copied, F_p_copied⟩ := h_p_copied
  refine F.ok sc_c_InvalidText_init (fun vs H Q E h => ?_) (fun cdv A outer s H vs Q E hr h => ?_)
  · obtain ⟨a, C, ws, ds, S, rfl, _, _, _, _, _, al, _, hl, _⟩ := h
    show ws.length + 1 = _
    rw [al.len, hl]
    rfl
  · obtain ⟨a, C, ws, ds, S, rfl, hS, na, G, nf, ea, al, lv, hl, q⟩ := h
    obtain ⟨d0, d1, rfl⟩ : ∃ (d0 : PyData) (d1 : PyData), ds = [d0, d1] := match ds, hl with | [d0, d1], _ => ⟨d0, d1, rfl⟩
    obtain ⟨w0, w1, rfl, r0, r1⟩ : ∃ (w0 : V) (w1 : V), ws = [w0, w1] ∧ Da K (hidS S H) w0 d0 ∧ Da K (hidS S H) w1 d1 := by
      cases al with
      | cons r0 al =>
        cases al with
        | cons r1 al =>
          cases al
          exact ⟨_, _, rfl, r0, r1⟩
    refine ⟨_, (pss_cons (ps_put (pv 0) (pe_call G_p_copied (hr.mono (by decide)) (by rfl) m_p_copied k_p_copied b_p_copied .nil pass0 (pa_cons (pv 1) pa_nil))) (pss_cons (ps_put (pv 0) (pe_call G_p_copied (hr.mono (by decide)) (by rfl) m_p_copied k_p_copied b_p_copied .nil pass0 (pa_cons (pv 2) pa_nil))) (pss_one (ps_put (pv 0) pe_str)))), ?_⟩
    have kp : ∀ b o, b ≠ a → H b = some o → H b = some o := fun _ _ _ e => e
    have ea0 := ea
    refine ⟨_, rfl, w0, d0, fun b => S b ∨ b = a, rfl, hidA_ne hS na kp ea, hidA ea0 kp r0, lv d0 (by simp), fun v0 C0 s0 z0 => ?_⟩
    have z0 := z0.to hidS_less
    have ea := s0 _ _ ea
    have kp : ∀ b o, b ≠ a → H b = some o → C0 b = some o := fun b o nb e => s0 _ _ (kp b o nb e)
    refine ⟨_, rfl, a, C, rfl, G, nf _ (by simp), .inl ⟨ea, fun dx nd ne => ?_⟩⟩
    generalize hP : upd (upd C0 dx (exd dx [(Str.ofString "line", v0)])) a (exo a C (some dx)) = P0
    obtain ⟨ed, ea, kp, kd, ndH⟩ := putA hP kp ea nd ne
    clear hP
    have z0 := z0.kd (keepD_hidS kd)
    refine ⟨_, rfl, w1, d1, fun b => S b ∨ b = a, rfl, hidA_ne hS na kp ea, hidA ea0 kp r1, lv d1 (by simp), fun v1 C1 s1 z1 => ?_⟩
    have z1 := z1.to hidS_less
    have ea := s1 _ _ ea
    have ed := s1 _ _ ed
    have kp : ∀ b o, b ≠ a → H b = some o → C1 b = some o := fun b o nb e => s1 _ _ (kp b o nb e)
    have z0 := z0.to (hidS_mono s1)
    refine ⟨_, rfl, a, C, rfl, G, nf _ (by simp), .inr ⟨dx, [(Str.ofString "line", v0)], ea, ed, (by show 1 ≤ 900; decide), ?_⟩⟩
    generalize hP : upd C1 dx (exd dx ((Str.ofString "why", v1) :: [(Str.ofString "line", v0)])) = P1
    obtain ⟨ed, ea, kp, kd⟩ := putB hP kp ea ed ndH ne
    clear hP
    have z1 := z1.kd (keepD_hidS kd)
    have z0 := z0.kd (keepD_hidS kd)
    refine ⟨_, rfl, a, C, rfl, G, nf _ (by simp), .inr ⟨dx, [(Str.ofString "why", v1), (Str.ofString "line", v0)], ea, ed, (by show 2 ≤ 900; decide), ?_⟩⟩
    generalize hP : upd P1 dx (exd dx ((Str.ofString "code", V.str (Str.ofString "InvalidText")) :: [(Str.ofString "why", v1), (Str.ofString "line", v0)])) = P9
    obtain ⟨ed, ea, kp, kd⟩ := putB hP kp ea ed ndH ne
    clear hP
    have z1 := z1.kd (keepD_hidS kd)
    have z0 := z0.kd (keepD_hidS kd)
    exact q _ [v0, v1] dx kp (.cons z0 (.cons z1 .nil)) ndH ne ea ed
end
end Th
namespace Th
open PySem PySem.Spec PyProof.Rows L2
theorem sc_c_InvalidNumber_init : FnScope ["self", "value"] ["self", "value"] (defScope s_c_InvalidNumber_init) := ⟨rfl, rfl, rfl, by decide +kernel, rfl, by decide +kernel, by decide +kernel⟩

section
variable {P : Program} {w : World} {K : PySem.W.Frag} {mg : Str → Option Value} {base : Heap} {CB : Addr}
theorem has_c_InvalidNumber_init {fI : Addr} {fd : FuncData} (Z : Zs mg) (F : Fun K "__init__" "InvalidNumber.__init__" s_c_InvalidNumber_init fI fd) (h_p_copied : Has P w K mg base "copied" s_p_copied 6 ["value"] (spCopy K 6)) : FnOk P w K mg base CX0 7 fI fd ["self", "value"] (spInitN K "InvalidNumber" ["value"] 6) := by
  obtain ⟨f_p_copied, fd_p_copied, G_p_copied, m_p_copied, k_p_copied, b_p_copied, F_p_copied⟩ := h_p_copied
  refine F.ok sc_c_InvalidNumber_init (fun vs H Q E h => ?_) (fun cdv A outer s H vs Q E hr h => ?_)
  · obtain ⟨a, C, ws, ds, S, rfl, _, _, _, _, _, al, _, hl, _⟩ := h
    show ws.length + 1 = _
    rw [al.len, hl]
    rfl
  · obtain ⟨a, C, ws, ds, S, rfl, hS, na, G, nf, ea, al, lv, hl, q⟩ := h
    obtain ⟨d0, rfl⟩ : ∃ (d0 : PyData), ds = [d0] := match ds, hl with | [d0], _ => ⟨d0, rfl⟩
    obtain ⟨w0, rfl, r0⟩ : ∃ (w0 : V), ws = [w0] ∧ Da K (hidS S H) w0 d0 := by
      cases al with
      | cons r0 al =>
        cases al
        exact ⟨_, rfl, r0⟩
    refine ⟨_, (pss_cons (ps_put (pv 0) (pe_call G_p_copied (hr.mono (by decide)) (by rfl) m_p_copied k_p_copied b_p_copied .nil pass0 (pa_cons (pv 1) pa_nil))) (pss_one (ps_put (pv 0) pe_str))), ?_⟩
    have kp : ∀ b o, b ≠ a → H b = some o → H b = some o := fun _ _ _ e => e
    have ea0 := ea
    refine ⟨_, rfl, w0, d0, fun b => S b ∨ b = a, rfl, hidA_ne hS na kp ea, hidA ea0 kp r0, lv d0 (by simp), fun v0 C0 s0 z0 => ?_⟩
    have z0 := z0.to hidS_less
    have ea := s0 _ _ ea
    have kp : ∀ b o, b ≠ a → H b = some o → C0 b = some o := fun b o nb e => s0 _ _ (kp b o nb e)
    refine ⟨_, rfl, a, C, rfl, G, nf _ (by simp), .inl ⟨ea, fun dx nd ne => ?_⟩⟩
    generalize hP : upd (upd C0 dx (exd dx [(Str.ofString "value", v0)])) a (exo a C (some dx)) = P0
    obtain ⟨ed, ea, kp, kd, ndH⟩ := putA hP kp ea nd ne
    clear hP
    have z0 := z0.kd (keepD_hidS kd)
    refine ⟨_, rfl, a, C, rfl, G, nf _ (by simp), .inr ⟨dx, [(Str.ofString "value", v0)], ea, ed, (by show 1 ≤ 900; decide), ?_⟩⟩
    generalize hP : upd P0 dx (exd dx ((Str.ofString "code", V.str (Str.ofString "InvalidNumber")) :: [(Str.ofString "value", v0)])) = P9
    obtain ⟨ed, ea, kp, kd⟩ := putB hP kp ea ed ndH ne
    clear hP
    have z0 := z0.kd (keepD_hidS kd)
    exact q _ [v0] dx kp (.cons z0 .nil) ndH ne ea ed
end
end Th
namespace Th
open PySem PySem.Spec PyProof.Rows L2
theorem sc_c_InvalidStatement_init : FnScope ["self"] ["self"] (defScope s_c_InvalidStatement_init) := ⟨rfl, rfl, rfl, by decide +kernel, rfl, by decide +kernel, by decide +kernel⟩

section
variable {P : Program} {w : World} {K : PySem.W.Frag} {mg : Str → Option Value} {base : Heap} {CB : Addr}
theorem has_c_InvalidStatement_init {fI : Addr} {fd : FuncData} (Z : Zs mg) (F : Fun K "__init__" "InvalidStatement.__init__" s_c_InvalidStatement_init fI fd) (h_p_copied : Has P w K mg base "copied" s_p_copied 6 ["value"] (spCopy K 6)) : FnOk P w K mg base CX0 7 fI fd ["self"] (spInitN K "InvalidStatement" [] 6) := by
  obtain ⟨f_p_copied, fd_p_copied, G_p_copied, m_p_copied, k_p_copied, b_p_copied, F_p_copied⟩ := h_p_copied
  refine F.ok sc_c_InvalidStatement_init (fun vs H Q E h => ?_) (fun cdv A outer s H vs Q E hr h => ?_)
  · obtain ⟨a, C, ws, ds, S, rfl, _, _, _, _, _, al, _, hl, _⟩ := h
    show ws.length + 1 = _
    rw [al.len, hl]
    rfl
  · obtain ⟨a, C, ws, ds, S, rfl, hS, na, G, nf, ea, al, lv, hl, q⟩ := h
    obtain rfl : ds = [] := List.length_eq_zero_iff.mp hl
    cases al
    refine ⟨_, (pss_one (ps_put (pv 0) pe_str)), ?_⟩
    have kp : ∀ b o, b ≠ a → H b = some o → H b = some o := fun _ _ _ e => e
    have ea0 := ea
    refine ⟨_, rfl, a, C, rfl, G, nf _ (by simp), .inl ⟨ea, fun dx nd ne => ?_⟩⟩
    generalize hP : upd (upd H dx (exd dx [(Str.ofString "code", V.str (Str.ofString "InvalidStatement"))])) a (exo a C (some dx)) = P9
    obtain ⟨ed, ea, kp, kd, ndH⟩ := putA hP kp ea nd ne
    clear hP
    exact q _ [] dx kp .nil ndH ne ea ed
end
end Th
namespace Th
open PySem PySem.Spec PyProof.Rows L2
theorem sc_c_InvalidQuestion_init : FnScope ["self"] ["self"] (defScope s_c_InvalidQuestion_init) := ⟨rfl, rfl, rfl, by decide +kernel, rfl, by decide +kernel, by decide +kernel⟩

section
variable {P : Program} {w : World} {K : PySem.W.Frag} {mg : Str → Option Value} {base : Heap} {CB : Addr}
theorem has_c_InvalidQuestion_init {fI : Addr} {fd : FuncData} (Z : Zs mg) (F : Fun K "__init__" "InvalidQuestion.__init__" s_c_InvalidQuestion_init fI fd) (h_p_copied : Has P w K mg base "copied" s_p_copied 6 ["value"] (spCopy K 6)) : FnOk P w K mg base CX0 7 fI fd ["self"] (spInitN K "InvalidQuestion" [] 6) := by
  obtain ⟨f_p_copied, fd_p_copied, G_p_copied, m_p_copied, k_p_copied, b_p_copied, F_p_copied⟩ := h_p_copied
  refine F.ok sc_c_InvalidQuestion_init (fun vs H Q E h => ?_) (fun cdv A outer s H vs Q E hr h => ?_)
  · obtain ⟨a, C, ws, ds, S, rfl, _, _, _, _, _, al, _, hl, _⟩ := h
    show ws.length + 1 = _
    rw [al.len, hl]
    rfl
  · obtain ⟨a, C, ws, ds, S, rfl, hS, na, G, nf, ea, al, lv, hl, q⟩ := h
    obtain rfl : ds = [] := List.length_eq_zero_iff.mp hl
    cases al
    refine ⟨_, (pss_one (ps_put (pv 0) pe_str)), ?_⟩
    have kp : ∀ b o, b ≠ a → H b = some o → H b = some o := fun _ _ _ e => e
    have ea0 := ea
    refine ⟨_, rfl, a, C, rfl, G, nf _ (by simp), .inl ⟨ea, fun dx nd ne => ?_⟩⟩
    generalize hP : upd (upd H dx (exd dx [(Str.ofString "code", V.str (Str.ofString "InvalidQuestion"))])) a (exo a C (some dx)) = P9
    obtain ⟨ed, ea, kp, kd, ndH⟩ := putA hP kp ea nd ne
    clear hP
    exact q _ [] dx kp .nil ndH ne ea ed
end
end Th
namespace Th
open PySem PySem.Spec PyProof.Rows L2
theorem sc_c_InvalidClaim_init : FnScope ["self"] ["self"] (defScope s_c_InvalidClaim_init) := ⟨rfl, rfl, rfl, by decide +kernel, rfl, by decide +kernel, by decide +kernel⟩

section
variable {P : Program} {w : World} {K : PySem.W.Frag} {mg : Str → Option Value} {base : Heap} {CB : Addr}
theorem has_c_InvalidClaim_init {fI : Addr} {fd : FuncData} (Z : Zs mg) (F : Fun K "__init__" "InvalidClaim.__init__" s_c_InvalidClaim_init fI fd) (h_p_copied : Has P w K mg base "copied" s_p_copied 6 ["value"] (spCopy K 6)) : FnOk P w K mg base CX0 7 fI fd ["self"] (spInitN K "InvalidClaim" [] 6) := by
  obtain ⟨f_p_copied, fd_p_copied, G_p_copied, m_p_copied, k_p_copied, b_p_copied, F_p_copied⟩ := h_p_copied
  refine F.ok sc_c_InvalidClaim_init (fun vs H Q E h => ?_) (fun cdv A outer s H vs Q E hr h => ?_)
  · obtain ⟨a, C, ws, ds, S, rfl, _, _, _, _, _, al, _, hl, _⟩ := h
    show ws.length + 1 = _
    rw [al.len, hl]
    rfl
  · obtain ⟨a, C, ws, ds, S, rfl, hS, na, G, nf, ea, al, lv, hl, q⟩ := h
    obtain rfl : ds = [] := List.length_eq_zero_iff.mp hl
    cases al
    refine ⟨_, (pss_one (ps_put (pv 0) pe_str)), ?_⟩
    have kp : ∀ b o, b ≠ a → H b = some o → H b = some o := fun _ _ _ e => e
    have ea0 := ea
    refine ⟨_, rfl, a, C, rfl, G, nf _ (by simp), .inl ⟨ea, fun dx nd ne => ?_⟩⟩
    generalize hP : upd (upd H dx (exd dx [(Str.ofString "code", V.str (Str.ofString "InvalidClaim"))])) a (exo a C (some dx)) = P9
    obtain ⟨ed, ea, kp, kd, ndH⟩ := putA hP kp ea nd ne
    clear hP
    exact q _ [] dx kp .nil ndH ne ea ed
end
end Th
namespace Th
open PySem PySem.Spec PyProof.Rows L2
theorem sc_c_InvalidTimes_init : FnScope ["self", "name"] ["self", "name"] (defScope s_c_InvalidTimes_init) := ⟨rfl, rfl, rfl, by decide +kernel, rfl, by decide +kernel, by decide +kernel⟩

section
variable {P : Program} {w : World} {K : PySem.W.Frag} {mg : Str → Option Value} {base : Heap} {CB : Addr}
theorem has_c_InvalidTimes_init {fI : Addr} {fd : FuncData} (Z : Zs mg) (F : Fun K "__init__" "InvalidTimes.__init__" s_c_InvalidTimes_init fI fd) (h_p_copied : Has P w K mg base "copied" s_p_copied 6 ["value"] (spCopy K 6)) : FnOk P w K mg base CX0 7 fI fd ["self", "name"] (spInitN K "InvalidTimes" ["name"] 6) := by
  obtain ⟨f_p_copied, fd_p_copied, G_p_copied, m_p_copied, k_p_copied, b_p_copied, F_p_copied⟩ := h_p_copied
  refine F.ok sc_c_InvalidTimes_init (fun vs H Q E h => ?_) (fun cdv A outer s H vs Q E hr h => ?_)
  · obtain ⟨a, C, ws, ds, S, rfl, _, _, _, _, _, al, _, hl, _⟩ := h
    show ws.length + 1 = _
    rw [al.len, hl]
    rfl
  · obtain ⟨a, C, ws, ds, S, rfl, hS, na, G, nf, ea, al, lv, hl, q⟩ := h
    obtain ⟨d0, rfl⟩ : ∃ (d0 : PyData), ds = [d0] := match ds, hl with | [d0], _ => ⟨d0, rfl⟩
    obtain ⟨w0, rfl, r0⟩ : ∃ (w0 : V), ws = [w0] ∧ Da K (hidS S H) w0 d0 := by
      cases al with
      | cons r0 al =>
        cases al
        exact ⟨_, rfl, r0⟩
    refine ⟨_, (pss_cons (ps_put (pv 0) (pe_call G_p_copied (hr.mono (by decide)) (by rfl) m_p_copied k_p_copied b_p_copied .nil pass0 (pa_cons (pv 1) pa_nil))) (pss_one (ps_put (pv 0) pe_str))), ?_⟩
    have kp : ∀ b o, b ≠ a → H b = some o → H b = some o := fun _ _ _ e => e
    have ea0 := ea
    refine ⟨_, rfl, w0, d0, fun b => S b ∨ b = a, rfl, hidA_ne hS na kp ea, hidA ea0 kp r0, lv d0 (by simp), fun v0 C0 s0 z0 => ?_⟩
    have z0 := z0.to hidS_less
    have ea := s0 _ _ ea
    have kp : ∀ b o, b ≠ a → H b = some o → C0 b = some o := fun b o nb e => s0 _ _ (kp b o nb e)
    refine ⟨_, rfl, a, C, rfl, G, nf _ (by simp), .inl ⟨ea, fun dx nd ne => ?_⟩⟩
    generalize hP : upd (upd C0 dx (exd dx [(Str.ofString "name", v0)])) a (exo a C (some dx)) = P0
    obtain ⟨ed, ea, kp, kd, ndH⟩ := putA hP kp ea nd ne
    clear hP
    have z0 := z0.kd (keepD_hidS kd)
    refine ⟨_, rfl, a, C, rfl, G, nf _ (by simp), .inr ⟨dx, [(Str.ofString "name", v0)], ea, ed, (by show 1 ≤ 900; decide), ?_⟩⟩
    generalize hP : upd P0 dx (exd dx ((Str.ofString "code", V.str (Str.ofString "InvalidTimes")) :: [(Str.ofString "name", v0)])) = P9
    obtain ⟨ed, ea, kp, kd⟩ := putB hP kp ea ed ndH ne
    clear hP
    have z0 := z0.kd (keepD_hidS kd)
    exact q _ [v0] dx kp (.cons z0 .nil) ndH ne ea ed
end
end Th
namespace Th
open PySem PySem.Spec PyProof.Rows L2
theorem sc_c_InvalidWeights_init : FnScope ["self", "name"] ["self", "name"] (defScope s_c_InvalidWeights_init) := ⟨rfl, rfl, rfl, by decide +kernel, rfl, by decide +kernel, by decide +kernel⟩

section
variable {P : Program} {w : World} {K : PySem.W.Frag} {mg : Str → Option Value} {base : Heap} {CB : Addr}
theorem has_c_InvalidWeights_init {fI : Addr} {fd : FuncData} (Z : Zs mg) (F : Fun K "__init__" "InvalidWeights.__init__" s_c_InvalidWeights_init fI fd) (h_p_copied : Has P w K mg base "copied" s_p_copied 6 ["value"] (spCopy K 6)) : FnOk P w K mg base CX0 7 fI fd ["self", "name"] (spInitN K "InvalidWeights" ["name"] 6) := by
  obtain ⟨f_p_copied, fd_p_copied, G_p_copied, m_p_copied, k_p_copied, b_p_copied, F_p_copied⟩ := h_p_copied
  refine F.ok sc_c_InvalidWeights_init (fun vs H Q E h => ?_) (fun cdv A outer s H vs Q E hr h => ?_)
  · obtain ⟨a, C, ws, ds, S, rfl, _, _, _, _, _, al, _, hl, _⟩ := h
    show ws.length + 1 = _
    rw [al.len, hl]
    rfl
  · obtain ⟨a, C, ws, ds, S, rfl, hS, na, G, nf, ea, al, lv, hl, q⟩ := h
    obtain ⟨d0, rfl⟩ : ∃ (d0 : PyData), ds = [d0] := match ds, hl with | [d0], _ => ⟨d0, rfl⟩
    obtain ⟨w0, rfl, r0⟩ : ∃ (w0 : V), ws = [w0] ∧ Da K (hidS S H) w0 d0 := by
      cases al with
      | cons r0 al =>
        cases al
        exact ⟨_, rfl, r0⟩
    refine ⟨_, (pss_cons (ps_put (pv 0) (pe_call G_p_copied (hr.mono (by decide)) (by rfl) m_p_copied k_p_copied b_p_copied .nil pass0 (pa_cons (pv 1) pa_nil))) (pss_one (ps_put (pv 0) pe_str))), ?_⟩
    have kp : ∀ b o, b ≠ a → H b = some o → H b = some o := fun _ _ _ e => e
    have ea0 := ea
    refine ⟨_, rfl, w0, d0, fun b => S b ∨ b = a, rfl, hidA_ne hS na kp ea, hidA ea0 kp r0, lv d0 (by simp), fun v0 C0 s0 z0 => ?_⟩
    have z0 := z0.to hidS_less
    have ea := s0 _ _ ea
    have kp : ∀ b o, b ≠ a → H b = some o → C0 b = some o := fun b o nb e => s0 _ _ (kp b o nb e)
    refine ⟨_, rfl, a, C, rfl, G, nf _ (by simp), .inl ⟨ea, fun dx nd ne => ?_⟩⟩
    generalize hP : upd (upd C0 dx (exd dx [(Str.ofString "name", v0)])) a (exo a C (some dx)) = P0
    obtain ⟨ed, ea, kp, kd, ndH⟩ := putA hP kp ea nd ne
    clear hP
    have z0 := z0.kd (keepD_hidS kd)
    refine ⟨_, rfl, a, C, rfl, G, nf _ (by simp), .inr ⟨dx, [(Str.ofString "name", v0)], ea, ed, (by show 1 ≤ 900; decide), ?_⟩⟩
    generalize hP : upd P0 dx (exd dx ((Str.ofString "code", V.str (Str.ofString "InvalidWeights")) :: [(Str.ofString "name", v0)])) = P9
    obtain ⟨ed, ea, kp, kd⟩ := putB hP kp ea ed ndH ne
    clear hP
    have z0 := z0.kd (keepD_hidS kd)
    exact q _ [v0] dx kp (.cons z0 .nil) ndH ne ea ed
end
end Th
namespace Th
open PySem PySem.Spec PyProof.Rows L2
theorem sc_c_DuplicateName_init : FnScope ["self", "name"] ["self", "name"] (defScope s_c_DuplicateName_init) := ⟨rfl, rfl, rfl, by decide +kernel, rfl, by decide +kernel, by decide +kernel⟩

section
variable {P : Program} {w : World} {K : PySem.W.Frag} {mg : Str → Option Value} {base : Heap} {CB : Addr}
theorem has_c_DuplicateName_init {fI : Addr} {fd : FuncData} (Z : Zs mg) (F : Fun K "__init__" "DuplicateName.__init__" s_c_DuplicateName_init fI fd) (h_p_copied : Has P w K mg base "copied" s_p_copied 6 ["value"] (spCopy K 6)) : FnOk P w K mg base CX0 7 fI fd ["self", "name"] (spInitN K "DuplicateName" ["name"] 6) := by
  obtain ⟨f_p_copied, fd_p_copied, G_p_copied, m_p_copied, k_p_copied, b_p_copied, F_p_copied⟩ := h_p_copied
  refine F.ok sc_c_DuplicateName_init (fun vs H Q E h => ?_) (fun cdv A outer s H vs Q E hr h => ?_)
  · obtain ⟨a, C, ws, ds, S, rfl, _, _, _, _, _, al, _, hl, _⟩ := h
    show ws.length + 1 = _
    rw [al.len, hl]
    rfl
  · obtain ⟨a, C, ws, ds, S, rfl, hS, na, G, nf, ea, al, lv, hl, q⟩ := h
    obtain ⟨d0, rfl⟩ : ∃ (d0 : PyData), ds = [d0] := match ds, hl with | [d0], _ => ⟨d0, rfl⟩
    obtain ⟨w0, rfl, r0⟩ : ∃ (w0 : V), ws = [w0] ∧ Da K (hidS S H) w0 d0 := by
      cases al with
      | cons r0 al =>
        cases al
        exact ⟨_, rfl, r0⟩
    refine ⟨_, (pss_cons (ps_put (pv 0) (pe_call G_p_copied (hr.mono (by decide)) (by rfl) m_p_copied k_p_copied b_p_copied .nil pass0 (pa_cons (pv 1) pa_nil))) (pss_one (ps_put (pv 0) pe_str))), ?_⟩
    have kp : ∀ b o, b ≠ a → H b = some o → H b = some o := fun _ _ _ e => e
    have ea0 := ea
    refine ⟨_, rfl, w0, d0, fun b => S b ∨ b = a, rfl, hidA_ne hS na kp ea, hidA ea0 kp r0, lv d0 (by simp), fun v0 C0 s0 z0 => ?_⟩
    have z0 := z0.to hidS_less
    have ea := s0 _ _ ea
    have kp : ∀ b o, b ≠ a → H b = some o → C0 b = some o := fun b o nb e => s0 _ _ (kp b o nb e)
    refine ⟨_, rfl, a, C, rfl, G, nf _ (by simp), .inl ⟨ea, fun dx nd ne => ?_⟩⟩
    generalize hP : upd (upd C0 dx (exd dx [(Str.ofString "name", v0)])) a (exo a C (some dx)) = P0
    obtain ⟨ed, ea, kp, kd, ndH⟩ := putA hP kp ea nd ne
    clear hP
    have z0 := z0.kd (keepD_hidS kd)
    refine ⟨_, rfl, a, C, rfl, G, nf _ (by simp), .inr ⟨dx, [(Str.ofString "name", v0)], ea, ed, (by show 1 ≤ 900; decide), ?_⟩⟩
    generalize hP : upd P0 dx (exd dx ((Str.ofString "code", V.str (Str.ofString "DuplicateName")) :: [(Str.ofString "name", v0)])) = P9
    obtain ⟨ed, ea, kp, kd⟩ := putB hP kp ea ed ndH ne
    clear hP
    have z0 := z0.kd (keepD_hidS kd)
    exact q _ [v0] dx kp (.cons z0 .nil) ndH ne ea ed
end
end Th
namespace Th
open PySem PySem.Spec PyProof.Rows L2
theorem sc_c_TooMany_init : FnScope ["self", "most"] ["self", "most"] (defScope s_c_TooMany_init) := ⟨rfl, rfl, rfl, by decide +kernel, rfl, by decide +kernel, by decide +kernel⟩

section
variable {P : Program} {w : World} {K : PySem.W.Frag} {mg : Str → Option Value} {base : Heap} {CB : Addr}
theorem has_c_TooMany_init {fI : Addr} {fd : FuncData} (Z : Zs mg) (F : Fun K "__init__" "TooMany.__init__" s_c_TooMany_init fI fd) (h_p_copied : Has P w K mg base "copied" s_p_copied 6 ["value"] (spCopy K 6)) : FnOk P w K mg base CX0 7 fI fd ["self", "most"] (spInitN K "TooMany" ["most"] 6) := by
  obtain ⟨f_p_copied, fd_p_copied, G_p_copied, m_p_copied, k_p_copied, b_p_copied, F_p_copied⟩ := h_p_copied
  refine F.ok sc_c_TooMany_init (fun vs H Q E h => ?_) (fun cdv A outer s H vs Q E hr h => ?_)
  · obtain ⟨a, C, ws, ds, S, rfl, _, _, _, _, _, al, _, hl, _⟩ := h
    show ws.length + 1 = _
    rw [al.len, hl]
    rfl
  · obtain ⟨a, C, ws, ds, S, rfl, hS, na, G, nf, ea, al, lv, hl, q⟩ := h
    obtain ⟨d0, rfl⟩ : ∃ (d0 : PyData), ds = [d0] := match ds, hl with | [d0], _ => ⟨d0, rfl⟩
    obtain ⟨w0, rfl, r0⟩ : ∃ (w0 : V), ws = [w0] ∧ Da K (hidS S H) w0 d0 := by
      cases al with
      | cons r0 al =>
        cases al
        exact ⟨_, rfl, r0⟩
    refine ⟨_, (pss_cons (ps_put (pv 0) (pe_call G_p_copied (hr.mono (by decide)) (by rfl) m_p_copied k_p_copied b_p_copied .nil pass0 (pa_cons (pv 1) pa_nil))) (pss_one (ps_put (pv 0) pe_str))), ?_⟩
    have kp : ∀ b o, b ≠ a → H b = some o → H b = some o := fun _ _ _ e => e
    have ea0 := ea
    refine ⟨_, rfl, w0, d0, fun b => S b ∨ b = a, rfl, hidA_ne hS na kp ea, hidA ea0 kp r0, lv d0 (by simp), fun v0 C0 s0 z0 => ?_⟩
    have z0 := z0.to hidS_less
    have ea := s0 _ _ ea
    have kp : ∀ b o, b ≠ a → H b = some o → C0 b = some o := fun b o nb e => s0 _ _ (kp b o nb e)
    refine ⟨_, rfl, a, C, rfl, G, nf _ (by simp), .inl ⟨ea, fun dx nd ne => ?_⟩⟩
    generalize hP : upd (upd C0 dx (exd dx [(Str.ofString "most", v0)])) a (exo a C (some dx)) = P0
    obtain ⟨ed, ea, kp, kd, ndH⟩ := putA hP kp ea nd ne
    clear hP
    have z0 := z0.kd (keepD_hidS kd)
    refine ⟨_, rfl, a, C, rfl, G, nf _ (by simp), .inr ⟨dx, [(Str.ofString "most", v0)], ea, ed, (by show 1 ≤ 900; decide), ?_⟩⟩
    generalize hP : upd P0 dx (exd dx ((Str.ofString "code", V.str (Str.ofString "TooMany")) :: [(Str.ofString "most", v0)])) = P9
    obtain ⟨ed, ea, kp, kd⟩ := putB hP kp ea ed ndH ne
    clear hP
    have z0 := z0.kd (keepD_hidS kd)
    exact q _ [v0] dx kp (.cons z0 .nil) ndH ne ea ed
end
end Th
namespace Th
open PySem PySem.Spec PyProof.Rows L2
theorem sc_c_TooFew_init : FnScope ["self", "least"] ["self", "least"] (defScope s_c_TooFew_init) := ⟨rfl, rfl, rfl, by decide +kernel, rfl, by decide +kernel, by decide +kernel⟩

section
variable {P : Program} {w : World} {K : PySem.W.Frag} {mg : Str → Option Value} {base : Heap} {CB : Addr}
theorem has_c_TooFew_init {fI : Addr} {fd : FuncData} (Z : Zs mg) (F : Fun K "__init__" "TooFew.__init__" s_c_TooFew_init fI fd) (h_p_copied : Has P w K mg base "copied" s_p_copied 6 ["value"] (spCopy K 6)) : FnOk P w K mg base CX0 7 fI fd ["self", "least"] (spInitN K "TooFew" ["least"] 6) := by
  obtain ⟨f_p_copied, fd_p_copied, G_p_copied, m_p_copied, k_p_copied, b_p_copied, F_p_copied⟩ := h_p_copied
  refine F.ok sc_c_TooFew_init (fun vs H Q E h => ?_) (fun cdv A outer s H vs Q E hr h => ?_)
  · obtain ⟨a, C, ws, ds, S, rfl, _, _, _, _, _, al, _, hl, _⟩ := h
    show ws.length + 1 = _
    rw [al.len, hl]
    rfl
  · obtain ⟨a, C, ws, ds, S, rfl, hS, na, G, nf, ea, al, lv, hl, q⟩ := h
    obtain ⟨d0, rfl⟩ : ∃ (d0 : PyData), ds = [d0] := match ds, hl with | [d0], _ => ⟨d0, rfl⟩
    obtain ⟨w0, rfl, r0⟩ : ∃ (w0 : V), ws = [w0] ∧ Da K (hidS S H) w0 d0 := by
      cases al with
      | cons r0 al =>
        cases al
        exact ⟨_, rfl, r0⟩
    refine ⟨_, (pss_cons (ps_put (pv 0) (pe_call G_p_copied (hr.mono (by decide)) (by rfl) m_p_copied k_p_copied b_p_copied .nil pass0 (pa_cons (pv 1) pa_nil))) (pss_one (ps_put (pv 0) pe_str))), ?_⟩
    have kp : ∀ b o, b ≠ a → H b = some o → H b = some o := fun _ _ _ e => e
    have ea0 := ea
    refine ⟨_, rfl, w0, d0, fun b => S b ∨ b = a, rfl, hidA_ne hS na kp ea, hidA ea0 kp r0, lv d0 (by simp), fun v0 C0 s0 z0 => ?_⟩
    have z0 := z0.to hidS_less
    have ea := s0 _ _ ea
    have kp : ∀ b o, b ≠ a → H b = some o → C0 b = some o := fun b o nb e => s0 _ _ (kp b o nb e)
    refine ⟨_, rfl, a, C, rfl, G, nf _ (by simp), .inl ⟨ea, fun dx nd ne => ?_⟩⟩
    generalize hP : upd (upd C0 dx (exd dx [(Str.ofString "least", v0)])) a (exo a C (some dx)) = P0
    obtain ⟨ed, ea, kp, kd, ndH⟩ := putA hP kp ea nd ne
    clear hP
    have z0 := z0.kd (keepD_hidS kd)
    refine ⟨_, rfl, a, C, rfl, G, nf _ (by simp), .inr ⟨dx, [(Str.ofString "least", v0)], ea, ed, (by show 1 ≤ 900; decide), ?_⟩⟩
    generalize hP : upd P0 dx (exd dx ((Str.ofString "code", V.str (Str.ofString "TooFew")) :: [(Str.ofString "least", v0)])) = P9
    obtain ⟨ed, ea, kp, kd⟩ := putB hP kp ea ed ndH ne
    clear hP
    have z0 := z0.kd (keepD_hidS kd)
    exact q _ [v0] dx kp (.cons z0 .nil) ndH ne ea ed
end
end Th
namespace Th
open PySem PySem.Spec PyProof.Rows L2
theorem sc_c_CannotStand_init : FnScope ["self", "one", "two", "three"] ["self", "one", "two", "three"] (defScope s_c_CannotStand_init) := ⟨rfl, rfl, rfl, by decide +kernel, rfl, by decide +kernel, by decide +kernel⟩

section
variable {P : Program} {w : World} {K : PySem.W.Frag} {mg : Str → Option Value} {base : Heap} {CB : Addr}
theorem has_c_CannotStand_init {fI : Addr} {fd : FuncData} (Z : Zs mg) (F : Fun K "__init__" "CannotStand.__init__" s_c_CannotStand_init fI fd) (h_p_copied : Has P w K mg base "copied" s_p_copied 6 ["value"] (spCopy K 6)) : FnOk P w K mg base CX0 7 fI fd ["self", "one", "two", "three"] (spInitN K "CannotStand" ["one", "two", "three"] 6) := by
  obtain ⟨f_p_copied, fd_p_copied, G_p_copied, m_p_copied, k_p_copied, b_p_copied, F_p_copied⟩ := h_p_copied
  refine F.ok sc_c_CannotStand_init (fun vs H Q E h => ?_) (fun cdv A outer s H vs Q E hr h => ?_)
  · obtain ⟨a, C, ws, ds, S, rfl, _, _, _, _, _, al, _, hl, _⟩ := h
    show ws.length + 1 = _
    rw [al.len, hl]
    rfl
  · obtain ⟨a, C, ws, ds, S, rfl, hS, na, G, nf, ea, al, lv, hl, q⟩ := h
    obtain ⟨d0, d1, d2, rfl⟩ : ∃ (d0 : PyData) (d1 : PyData) (d2 : PyData), ds = [d0, d1, d2] := match ds, hl with | [d0, d1, d2], _ => ⟨d0, d1, d2, rfl⟩
    obtain ⟨w0, w1, w2, rfl, r0, r1, r2⟩ : ∃ (w0 : V) (w1 : V) (w2 : V), ws = [w0, w1, w2] ∧ Da K (hidS S H) w0 d0 ∧ Da K (hidS S H) w1 d1 ∧ Da K (hidS S H) w2 d2 := by
      cases al with
      | cons r0 al =>
        cases al with
        | cons r1 al =>
          cases al with
          | cons r2 al =>
            cases al
            exact ⟨_, _, _, rfl, r0, r1, r2⟩
    refine ⟨_, (pss_cons (ps_put (pv 0) (pe_call G_p_copied (hr.mono (by decide)) (by rfl) m_p_copied k_p_copied b_p_copied .nil pass0 (pa_cons (pv 1) pa_nil))) (pss_cons (ps_put (pv 0) (pe_call G_p_copied (hr.mono (by decide)) (by rfl) m_p_copied k_p_copied b_p_copied .nil pass0 (pa_cons (pv 2) pa_nil))) (pss_cons (ps_put (pv 0) (pe_call G_p_copied (hr.mono (by decide)) (by rfl) m_p_copied k_p_copied b_p_copied .nil pass0 (pa_cons (pv 3) pa_nil))) (pss_one (ps_put (pv 0) pe_str))))), ?_⟩
    have kp : ∀ b o, b ≠ a → H b = some o → H b = some o := fun _ _ _ e => e
    have ea0 := ea
    refine ⟨_, rfl, w0, d0, fun b => S b ∨ b = a, rfl, hidA_ne hS na kp ea, hidA ea0 kp r0, lv d0 (by simp), fun v0 C0 s0 z0 => ?_⟩
    have z0 := z0.to hidS_less
    have ea := s0 _ _ ea
    have kp : ∀ b o, b ≠ a → H b = some o → C0 b = some o := fun b o nb e => s0 _ _ (kp b o nb e)
    refine ⟨_, rfl, a, C, rfl, G, nf _ (by simp), .inl ⟨ea, fun dx nd ne => ?_⟩⟩
    generalize hP : upd (upd C0 dx (exd dx [(Str.ofString "one", v0)])) a (exo a C (some dx)) = P0
    obtain ⟨ed, ea, kp, kd, ndH⟩ := putA hP kp ea nd ne
    clear hP
    have z0 := z0.kd (keepD_hidS kd)
    refine ⟨_, rfl, w1, d1, fun b => S b ∨ b = a, rfl, hidA_ne hS na kp ea, hidA ea0 kp r1, lv d1 (by simp), fun v1 C1 s1 z1 => ?_⟩
    have z1 := z1.to hidS_less
    have ea := s1 _ _ ea
    have ed := s1 _ _ ed
    have kp : ∀ b o, b ≠ a → H b = some o → C1 b = some o := fun b o nb e => s1 _ _ (kp b o nb e)
    have z0 := z0.to (hidS_mono s1)
    refine ⟨_, rfl, a, C, rfl, G, nf _ (by simp), .inr ⟨dx, [(Str.ofString "one", v0)], ea, ed, (by show 1 ≤ 900; decide), ?_⟩⟩
    generalize hP : upd C1 dx (exd dx ((Str.ofString "two", v1) :: [(Str.ofString "one", v0)])) = P1
    obtain ⟨ed, ea, kp, kd⟩ := putB hP kp ea ed ndH ne
    clear hP
    have z1 := z1.kd (keepD_hidS kd)
    have z0 := z0.kd (keepD_hidS kd)
    refine ⟨_, rfl, w2, d2, fun b => S b ∨ b = a, rfl, hidA_ne hS na kp ea, hidA ea0 kp r2, lv d2 (by simp), fun v2 C2 s2 z2 => ?_⟩
    have z2 := z2.to hidS_less
    have ea := s2 _ _ ea
    have ed := s2 _ _ ed
    have kp : ∀ b o, b ≠ a → H b = some o → C2 b = some o := fun b o nb e => s2 _ _ (kp b o nb e)
    have z0 := z0.to (hidS_mono s2)
    have z1 := z1.to (hidS_mono s2)
    refine ⟨_, rfl, a, C, rfl, G, nf _ (by simp), .inr ⟨dx, [(Str.ofString "two", v1), (Str.ofString "one", v0)], ea, ed, (by show 2 ≤ 900; decide), ?_⟩⟩
    generalize hP : upd C2 dx (exd dx ((Str.ofString "three", v2) :: [(Str.ofString "two", v1), (Str.ofString "one", v0)])) = P2
    obtain ⟨ed, ea, kp, kd⟩ := putB hP kp ea ed ndH ne
    clear hP
    have z2 := z2.kd (keepD_hidS kd)
    have z1 := z1.kd (keepD_hidS kd)
    have z0 := z0.kd (keepD_hidS kd)
    refine ⟨_, rfl, a, C, rfl, G, nf _ (by simp), .inr ⟨dx, [(Str.ofString "three", v2), (Str.ofString "two", v1), (Str.ofString "one", v0)], ea, ed, (by show 3 ≤ 900; decide), ?_⟩⟩
    generalize hP : upd P2 dx (exd dx ((Str.ofString "code", V.str (Str.ofString "CannotStand")) :: [(Str.ofString "three", v2), (Str.ofString "two", v1), (Str.ofString "one", v0)])) = P9
    obtain ⟨ed, ea, kp, kd⟩ := putB hP kp ea ed ndH ne
    clear hP
    have z2 := z2.kd (keepD_hidS kd)
    have z1 := z1.kd (keepD_hidS kd)
    have z0 := z0.kd (keepD_hidS kd)
    exact q _ [v0, v1, v2] dx kp (.cons z0 (.cons z1 (.cons z2 .nil))) ndH ne ea ed
end
end Th
namespace Th
open PySem PySem.Spec PyProof.Rows L2
theorem sc_c_Standing_init : FnScope ["self"] ["self"] (defScope s_c_Standing_init) := ⟨rfl, rfl, rfl, by decide +kernel, rfl, by decide +kernel, by decide +kernel⟩

section
variable {P : Program} {w : World} {K : PySem.W.Frag} {mg : Str → Option Value} {base : Heap} {CB : Addr}
theorem has_c_Standing_init {fI : Addr} {fd : FuncData} (Z : Zs mg) (F : Fun K "__init__" "Standing.__init__" s_c_Standing_init fI fd) (h_p_copied : Has P w K mg base "copied" s_p_copied 6 ["value"] (spCopy K 6)) : FnOk P w K mg base CX0 7 fI fd ["self"] (spInitN K "Standing" [] 6) := by
  obtain ⟨f_p_copied, fd_p_copied, G_p_copied, m_p_copied, k_p_copied, b_p_copied, F_p_copied⟩ := h_p_copied
  refine F.ok sc_c_Standing_init (fun vs H Q E h => ?_) (fun cdv A outer s H vs Q E hr h => ?_)
  · obtain ⟨a, C, ws, ds, S, rfl, _, _, _, _, _, al, _, hl, _⟩ := h
    show ws.length + 1 = _
    rw [al.len, hl]
    rfl
  · obtain ⟨a, C, ws, ds, S, rfl, hS, na, G, nf, ea, al, lv, hl, q⟩ := h
    obtain rfl : ds = [] := List.length_eq_zero_iff.mp hl
    cases al
    refine ⟨_, (pss_one (ps_put (pv 0) pe_str)), ?_⟩
    have kp : ∀ b o, b ≠ a → H b = some o → H b = some o := fun _ _ _ e => e
    have ea0 := ea
    refine ⟨_, rfl, a, C, rfl, G, nf _ (by simp), .inl ⟨ea, fun dx nd ne => ?_⟩⟩
    generalize hP : upd (upd H dx (exd dx [(Str.ofString "code", V.str (Str.ofString "Standing"))])) a (exo a C (some dx)) = P9
    obtain ⟨ed, ea, kp, kd, ndH⟩ := putA hP kp ea nd ne
    clear hP
    exact q _ [] dx kp .nil ndH ne ea ed
end
end Th
namespace Th
open PySem PySem.Spec PyProof.Rows L2
theorem sc_c_Clash_init : FnScope ["self", "marks"] ["self", "marks"] (defScope s_c_Clash_init) := ⟨rfl, rfl, rfl, by decide +kernel, rfl, by decide +kernel, by decide +kernel⟩

section
variable {P : Program} {w : World} {K : PySem.W.Frag} {mg : Str → Option Value} {base : Heap} {CB : Addr}
theorem has_c_Clash_init {fI : Addr} {fd : FuncData} (Z : Zs mg) (F : Fun K "__init__" "Clash.__init__" s_c_Clash_init fI fd) (h_p_copied : Has P w K mg base "copied" s_p_copied 6 ["value"] (spCopy K 6)) : FnOk P w K mg base CX0 7 fI fd ["self", "marks"] (spInitN K "Clash" ["marks"] 6) := by
  obtain ⟨f_p_copied, fd_p_copied, G_p_copied, m_p_copied, k_p_copied, b_p_copied, F_p_copied⟩ := h_p_copied
  refine F.ok sc_c_Clash_init (fun vs H Q E h => ?_) (fun cdv A outer s H vs Q E hr h => ?_)
  · obtain ⟨a, C, ws, ds, S, rfl, _, _, _, _, _, al, _, hl, _⟩ := h
    show ws.length + 1 = _
    rw [al.len, hl]
    rfl
  · obtain ⟨a, C, ws, ds, S, rfl, hS, na, G, nf, ea, al, lv, hl, q⟩ := h
    obtain ⟨d0, rfl⟩ : ∃ (d0 : PyData), ds = [d0] := match ds, hl with | [d0], _ => ⟨d0, rfl⟩
    obtain ⟨w0, rfl, r0⟩ : ∃ (w0 : V), ws = [w0] ∧ Da K (hidS S H) w0 d0 := by
      cases al with
      | cons r0 al =>
        cases al
        exact ⟨_, rfl, r0⟩
    refine ⟨_, (pss_cons (ps_put (pv 0) (pe_call G_p_copied (hr.mono (by decide)) (by rfl) m_p_copied k_p_copied b_p_copied .nil pass0 (pa_cons (pv 1) pa_nil))) (pss_one (ps_put (pv 0) pe_str))), ?_⟩
    have kp : ∀ b o, b ≠ a → H b = some o → H b = some o := fun _ _ _ e => e
    have ea0 := ea
    refine ⟨_, rfl, w0, d0, fun b => S b ∨ b = a, rfl, hidA_ne hS na kp ea, hidA ea0 kp r0, lv d0 (by simp), fun v0 C0 s0 z0 => ?_⟩
    have z0 := z0.to hidS_less
    have ea := s0 _ _ ea
    have kp : ∀ b o, b ≠ a → H b = some o → C0 b = some o := fun b o nb e => s0 _ _ (kp b o nb e)
    refine ⟨_, rfl, a, C, rfl, G, nf _ (by simp), .inl ⟨ea, fun dx nd ne => ?_⟩⟩
    generalize hP : upd (upd C0 dx (exd dx [(Str.ofString "marks", v0)])) a (exo a C (some dx)) = P0
    obtain ⟨ed, ea, kp, kd, ndH⟩ := putA hP kp ea nd ne
    clear hP
    have z0 := z0.kd (keepD_hidS kd)
    refine ⟨_, rfl, a, C, rfl, G, nf _ (by simp), .inr ⟨dx, [(Str.ofString "marks", v0)], ea, ed, (by show 1 ≤ 900; decide), ?_⟩⟩
    generalize hP : upd P0 dx (exd dx ((Str.ofString "code", V.str (Str.ofString "Clash")) :: [(Str.ofString "marks", v0)])) = P9
    obtain ⟨ed, ea, kp, kd⟩ := putB hP kp ea ed ndH ne
    clear hP
    have z0 := z0.kd (keepD_hidS kd)
    exact q _ [v0] dx kp (.cons z0 .nil) ndH ne ea ed
end
end Th
namespace Th
open PySem PySem.Spec PyProof.Rows L2
theorem sc_c_NotFitting_init : FnScope ["self"] ["self"] (defScope s_c_NotFitting_init) := ⟨rfl, rfl, rfl, by decide +kernel, rfl, by decide +kernel, by decide +kernel⟩

section
variable {P : Program} {w : World} {K : PySem.W.Frag} {mg : Str → Option Value} {base : Heap} {CB : Addr}
theorem has_c_NotFitting_init {fI : Addr} {fd : FuncData} (Z : Zs mg) (F : Fun K "__init__" "NotFitting.__init__" s_c_NotFitting_init fI fd) (h_p_copied : Has P w K mg base "copied" s_p_copied 6 ["value"] (spCopy K 6)) : FnOk P w K mg base CX0 7 fI fd ["self"] (spInitN K "NotFitting" [] 6) := by
  obtain ⟨f_p_copied, fd_p_copied, G_p_copied, m_p_copied, k_p_copied, b_p_copied, F_p_copied⟩ := h_p_copied
  refine F.ok sc_c_NotFitting_init (fun vs H Q E h => ?_) (fun cdv A outer s H vs Q E hr h => ?_)
  · obtain ⟨a, C, ws, ds, S, rfl, _, _, _, _, _, al, _, hl, _⟩ := h
    show ws.length + 1 = _
    rw [al.len, hl]
    rfl
  · obtain ⟨a, C, ws, ds, S, rfl, hS, na, G, nf, ea, al, lv, hl, q⟩ := h
    obtain rfl : ds = [] := List.length_eq_zero_iff.mp hl
    cases al
    refine ⟨_, (pss_one (ps_put (pv 0) pe_str)), ?_⟩
    have kp : ∀ b o, b ≠ a → H b = some o → H b = some o := fun _ _ _ e => e
    have ea0 := ea
    refine ⟨_, rfl, a, C, rfl, G, nf _ (by simp), .inl ⟨ea, fun dx nd ne => ?_⟩⟩
    generalize hP : upd (upd H dx (exd dx [(Str.ofString "code", V.str (Str.ofString "NotFitting"))])) a (exo a C (some dx)) = P9
    obtain ⟨ed, ea, kp, kd, ndH⟩ := putA hP kp ea nd ne
    clear hP
    exact q _ [] dx kp .nil ndH ne ea ed
end
end Th
namespace Th
open PySem PySem.Spec PyProof.Rows L2
theorem sc_c_NotShown_init : FnScope ["self"] ["self"] (defScope s_c_NotShown_init) := ⟨rfl, rfl, rfl, by decide +kernel, rfl, by decide +kernel, by decide +kernel⟩

section
variable {P : Program} {w : World} {K : PySem.W.Frag} {mg : Str → Option Value} {base : Heap} {CB : Addr}
theorem has_c_NotShown_init {fI : Addr} {fd : FuncData} (Z : Zs mg) (F : Fun K "__init__" "NotShown.__init__" s_c_NotShown_init fI fd) (h_p_copied : Has P w K mg base "copied" s_p_copied 6 ["value"] (spCopy K 6)) : FnOk P w K mg base CX0 7 fI fd ["self"] (spInitN K "NotShown" [] 6) := by
  obtain ⟨f_p_copied, fd_p_copied, G_p_copied, m_p_copied, k_p_copied, b_p_copied, F_p_copied⟩ := h_p_copied
  refine F.ok sc_c_NotShown_init (fun vs H Q E h => ?_) (fun cdv A outer s H vs Q E hr h => ?_)
  · obtain ⟨a, C, ws, ds, S, rfl, _, _, _, _, _, al, _, hl, _⟩ := h
    show ws.length + 1 = _
    rw [al.len, hl]
    rfl
  · obtain ⟨a, C, ws, ds, S, rfl, hS, na, G, nf, ea, al, lv, hl, q⟩ := h
    obtain rfl : ds = [] := List.length_eq_zero_iff.mp hl
    cases al
    refine ⟨_, (pss_one (ps_put (pv 0) pe_str)), ?_⟩
    have kp : ∀ b o, b ≠ a → H b = some o → H b = some o := fun _ _ _ e => e
    have ea0 := ea
    refine ⟨_, rfl, a, C, rfl, G, nf _ (by simp), .inl ⟨ea, fun dx nd ne => ?_⟩⟩
    generalize hP : upd (upd H dx (exd dx [(Str.ofString "code", V.str (Str.ofString "NotShown"))])) a (exo a C (some dx)) = P9
    obtain ⟨ed, ea, kp, kd, ndH⟩ := putA hP kp ea nd ne
    clear hP
    exact q _ [] dx kp .nil ndH ne ea ed
end
end Th
namespace Th
open PySem PySem.Spec PyProof.Rows L2
theorem sc_c_NotABlock_init : FnScope ["self", "lot"] ["self", "lot"] (defScope s_c_NotABlock_init) := ⟨rfl, rfl, rfl, by decide +kernel, rfl, by decide +kernel, by decide +kernel⟩

section
variable {P : Program} {w : World} {K : PySem.W.Frag} {mg : Str → Option Value} {base : Heap} {CB : Addr}
theorem has_c_NotABlock_init {fI : Addr} {fd : FuncData} (Z : Zs mg) (F : Fun K "__init__" "NotABlock.__init__" s_c_NotABlock_init fI fd) (h_p_copied : Has P w K mg base "copied" s_p_copied 6 ["value"] (spCopy K 6)) : FnOk P w K mg base CX0 7 fI fd ["self", "lot"] (spInitN K "NotABlock" ["lot"] 6) := by
  obtain ⟨f_p_copied, fd_p_copied, G_p_copied, m_p_copied, k_p_copied, b_p_copied, F_p_copied⟩ := h_p_copied
  refine F.ok sc_c_NotABlock_init (fun vs H Q E h => ?_) (fun cdv A outer s H vs Q E hr h => ?_)
  · obtain ⟨a, C, ws, ds, S, rfl, _, _, _, _, _, al, _, hl, _⟩ := h
    show ws.length + 1 = _
    rw [al.len, hl]
    rfl
  · obtain ⟨a, C, ws, ds, S, rfl, hS, na, G, nf, ea, al, lv, hl, q⟩ := h
    obtain ⟨d0, rfl⟩ : ∃ (d0 : PyData), ds = [d0] := match ds, hl with | [d0], _ => ⟨d0, rfl⟩
    obtain ⟨w0, rfl, r0⟩ : ∃ (w0 : V), ws = [w0] ∧ Da K (hidS S H) w0 d0 := by
      cases al with
      | cons r0 al =>
        cases al
        exact ⟨_, rfl, r0⟩
    refine ⟨_, (pss_cons (ps_put (pv 0) (pe_call G_p_copied (hr.mono (by decide)) (by rfl) m_p_copied k_p_copied b_p_copied .nil pass0 (pa_cons (pv 1) pa_nil))) (pss_one (ps_put (pv 0) pe_str))), ?_⟩
    have kp : ∀ b o, b ≠ a → H b = some o → H b = some o := fun _ _ _ e => e
    have ea0 := ea
    refine ⟨_, rfl, w0, d0, fun b => S b ∨ b = a, rfl, hidA_ne hS na kp ea, hidA ea0 kp r0, lv d0 (by simp), fun v0 C0 s0 z0 => ?_⟩
    have z0 := z0.to hidS_less
    have ea := s0 _ _ ea
    have kp : ∀ b o, b ≠ a → H b = some o → C0 b = some o := fun b o nb e => s0 _ _ (kp b o nb e)
    refine ⟨_, rfl, a, C, rfl, G, nf _ (by simp), .inl ⟨ea, fun dx nd ne => ?_⟩⟩
    generalize hP : upd (upd C0 dx (exd dx [(Str.ofString "lot", v0)])) a (exo a C (some dx)) = P0
    obtain ⟨ed, ea, kp, kd, ndH⟩ := putA hP kp ea nd ne
    clear hP
    have z0 := z0.kd (keepD_hidS kd)
    refine ⟨_, rfl, a, C, rfl, G, nf _ (by simp), .inr ⟨dx, [(Str.ofString "lot", v0)], ea, ed, (by show 1 ≤ 900; decide), ?_⟩⟩
    generalize hP : upd P0 dx (exd dx ((Str.ofString "code", V.str (Str.ofString "NotABlock")) :: [(Str.ofString "lot", v0)])) = P9
    obtain ⟨ed, ea, kp, kd⟩ := putB hP kp ea ed ndH ne
    clear hP
    have z0 := z0.kd (keepD_hidS kd)
    exact q _ [v0] dx kp (.cons z0 .nil) ndH ne ea ed
end
end Th
namespace Th
open PySem PySem.Spec PyProof.Rows L2
theorem sc_c_OtherFinds_init : FnScope ["self"] ["self"] (defScope s_c_OtherFinds_init) := ⟨rfl, rfl, rfl, by decide +kernel, rfl, by decide +kernel, by decide +kernel⟩

section
variable {P : Program} {w : World} {K : PySem.W.Frag} {mg : Str → Option Value} {base : Heap} {CB : Addr}
theorem has_c_OtherFinds_init {fI : Addr} {fd : FuncData} (Z : Zs mg) (F : Fun K "__init__" "OtherFinds.__init__" s_c_OtherFinds_init fI fd) (h_p_copied : Has P w K mg base "copied" s_p_copied 6 ["value"] (spCopy K 6)) : FnOk P w K mg base CX0 7 fI fd ["self"] (spInitN K "OtherFinds" [] 6) := by
  obtain ⟨f_p_copied, fd_p_copied, G_p_copied, m_p_copied, k_p_copied, b_p_copied, F_p_copied⟩ := h_p_copied
  refine F.ok sc_c_OtherFinds_init (fun vs H Q E h => ?_) (fun cdv A outer s H vs Q E hr h => ?_)
  · obtain ⟨a, C, ws, ds, S, rfl, _, _, _, _, _, al, _, hl, _⟩ := h
    show ws.length + 1 = _
    rw [al.len, hl]
    rfl
  · obtain ⟨a, C, ws, ds, S, rfl, hS, na, G, nf, ea, al, lv, hl, q⟩ := h
    obtain rfl : ds = [] := List.length_eq_zero_iff.mp hl
    cases al
    refine ⟨_, (pss_one (ps_put (pv 0) pe_str)), ?_⟩
    have kp : ∀ b o, b ≠ a → H b = some o → H b = some o := fun _ _ _ e => e
    have ea0 := ea
    refine ⟨_, rfl, a, C, rfl, G, nf _ (by simp), .inl ⟨ea, fun dx nd ne => ?_⟩⟩
    generalize hP : upd (upd H dx (exd dx [(Str.ofString "code", V.str (Str.ofString "OtherFinds"))])) a (exo a C (some dx)) = P9
    obtain ⟨ed, ea, kp, kd, ndH⟩ := putA hP kp ea nd ne
    clear hP
    exact q _ [] dx kp .nil ndH ne ea ed
end
end Th
namespace Th
open PySem PySem.Spec PyProof.Rows L2
theorem sc_c_Same_init : FnScope ["self", "name"] ["self", "name"] (defScope s_c_Same_init) := ⟨rfl, rfl, rfl, by decide +kernel, rfl, by decide +kernel, by decide +kernel⟩

section
variable {P : Program} {w : World} {K : PySem.W.Frag} {mg : Str → Option Value} {base : Heap} {CB : Addr}
theorem has_c_Same_init {fI : Addr} {fd : FuncData} (Z : Zs mg) (F : Fun K "__init__" "Same.__init__" s_c_Same_init fI fd) (h_p_copied : Has P w K mg base "copied" s_p_copied 6 ["value"] (spCopy K 6)) : FnOk P w K mg base CX0 7 fI fd ["self", "name"] (spInitN K "Same" ["name"] 6) := by
  obtain ⟨f_p_copied, fd_p_copied, G_p_copied, m_p_copied, k_p_copied, b_p_copied, F_p_copied⟩ := h_p_copied
  refine F.ok sc_c_Same_init (fun vs H Q E h => ?_) (fun cdv A outer s H vs Q E hr h => ?_)
  · obtain ⟨a, C, ws, ds, S, rfl, _, _, _, _, _, al, _, hl, _⟩ := h
    show ws.length + 1 = _
    rw [al.len, hl]
    rfl
  · obtain ⟨a, C, ws, ds, S, rfl, hS, na, G, nf, ea, al, lv, hl, q⟩ := h
    obtain ⟨d0, rfl⟩ : ∃ (d0 : PyData), ds = [d0] := match ds, hl with | [d0], _ => ⟨d0, rfl⟩
    obtain ⟨w0, rfl, r0⟩ : ∃ (w0 : V), ws = [w0] ∧ Da K (hidS S H) w0 d0 := by
      cases al with
      | cons r0 al =>
        cases al
        exact ⟨_, rfl, r0⟩
    refine ⟨_, (pss_cons (ps_put (pv 0) (pe_call G_p_copied (hr.mono (by decide)) (by rfl) m_p_copied k_p_copied b_p_copied .nil pass0 (pa_cons (pv 1) pa_nil))) (pss_one (ps_put (pv 0) pe_str))), ?_⟩
    have kp : ∀ b o, b ≠ a → H b = some o → H b = some o := fun _ _ _ e => e
    have ea0 := ea
    refine ⟨_, rfl, w0, d0, fun b => S b ∨ b = a, rfl, hidA_ne hS na kp ea, hidA ea0 kp r0, lv d0 (by simp), fun v0 C0 s0 z0 => ?_⟩
    have z0 := z0.to hidS_less
    have ea := s0 _ _ ea
    have kp : ∀ b o, b ≠ a → H b = some o → C0 b = some o := fun b o nb e => s0 _ _ (kp b o nb e)
    refine ⟨_, rfl, a, C, rfl, G, nf _ (by simp), .inl ⟨ea, fun dx nd ne => ?_⟩⟩
    generalize hP : upd (upd C0 dx (exd dx [(Str.ofString "name", v0)])) a (exo a C (some dx)) = P0
    obtain ⟨ed, ea, kp, kd, ndH⟩ := putA hP kp ea nd ne
    clear hP
    have z0 := z0.kd (keepD_hidS kd)
    refine ⟨_, rfl, a, C, rfl, G, nf _ (by simp), .inr ⟨dx, [(Str.ofString "name", v0)], ea, ed, (by show 1 ≤ 900; decide), ?_⟩⟩
    generalize hP : upd P0 dx (exd dx ((Str.ofString "code", V.str (Str.ofString "Same")) :: [(Str.ofString "name", v0)])) = P9
    obtain ⟨ed, ea, kp, kd⟩ := putB hP kp ea ed ndH ne
    clear hP
    have z0 := z0.kd (keepD_hidS kd)
    exact q _ [v0] dx kp (.cons z0 .nil) ndH ne ea ed
end
end Th
namespace Th
open PySem PySem.Spec PyProof.Rows L2
theorem sc_c_NoTable_init : FnScope ["self", "why", "found"] ["self", "why", "found"] (defScope s_c_NoTable_init) := ⟨rfl, rfl, rfl, by decide +kernel, rfl, by decide +kernel, by decide +kernel⟩

section
variable {P : Program} {w : World} {K : PySem.W.Frag} {mg : Str → Option Value} {base : Heap} {CB : Addr}
theorem has_c_NoTable_init {fI : Addr} {fd : FuncData} (Z : Zs mg) (F : Fun K "__init__" "NoTable.__init__" s_c_NoTable_init fI fd) (h_p_copied : Has P w K mg base "copied" s_p_copied 6 ["value"] (spCopy K 6)) : FnOk P w K mg base CX0 7 fI fd ["self", "why", "found"] (spInitN K "NoTable" ["why", "found"] 6) := by
  obtain ⟨f_p_copied, fd_p_copied, G_p_copied, m_p_copied, k_p_copied, b_p_copied, F_p_copied⟩ := h_p_copied
  refine F.ok sc_c_NoTable_init (fun vs H Q E h => ?_) (fun cdv A outer s H vs Q E hr h => ?_)
  · obtain ⟨a, C, ws, ds, S, rfl, _, _, _, _, _, al, _, hl, _⟩ := h
    show ws.length + 1 = _
    rw [al.len, hl]
    rfl
  · obtain ⟨a, C, ws, ds, S, rfl, hS, na, G, nf, ea, al, lv, hl, q⟩ := h
    obtain ⟨d0, d1, rfl⟩ : ∃ (d0 : PyData) (d1 : PyData), ds = [d0, d1] := match ds, hl with | [d0, d1], _ => ⟨d0, d1, rfl⟩
    obtain ⟨w0, w1, rfl, r0, r1⟩ : ∃ (w0 : V) (w1 : V), ws = [w0, w1] ∧ Da K (hidS S H) w0 d0 ∧ Da K (hidS S H) w1 d1 := by
      cases al with
      | cons r0 al =>
        cases al with
        | cons r1 al =>
          cases al
          exact ⟨_, _, rfl, r0, r1⟩
    refine ⟨_, (pss_cons (ps_put (pv 0) (pe_call G_p_copied (hr.mono (by decide)) (by rfl) m_p_copied k_p_copied b_p_copied .nil pass0 (pa_cons (pv 1) pa_nil))) (pss_cons (ps_put (pv 0) (pe_call G_p_copied (hr.mono (by decide)) (by rfl) m_p_copied k_p_copied b_p_copied .nil pass0 (pa_cons (pv 2) pa_nil))) (pss_one (ps_put (pv 0) pe_str)))), ?_⟩
    have kp : ∀ b o, b ≠ a → H b = some o → H b = some o := fun _ _ _ e => e
    have ea0 := ea
    refine ⟨_, rfl, w0, d0, fun b => S b ∨ b = a, rfl, hidA_ne hS na kp ea, hidA ea0 kp r0, lv d0 (by simp), fun v0 C0 s0 z0 => ?_⟩
    have z0 := z0.to hidS_less
    have ea := s0 _ _ ea
    have kp : ∀ b o, b ≠ a → H b = some o → C0 b = some o := fun b o nb e => s0 _ _ (kp b o nb e)
    refine ⟨_, rfl, a, C, rfl, G, nf _ (by simp), .inl ⟨ea, fun dx nd ne => ?_⟩⟩
    generalize hP : upd (upd C0 dx (exd dx [(Str.ofString "why", v0)])) a (exo a C (some dx)) = P0
    obtain ⟨ed, ea, kp, kd, ndH⟩ := putA hP kp ea nd ne
    clear hP
    have z0 := z0.kd (keepD_hidS kd)
    refine ⟨_, rfl, w1, d1, fun b => S b ∨ b = a, rfl, hidA_ne hS na kp ea, hidA ea0 kp r1, lv d1 (by simp), fun v1 C1 s1 z1 => ?_⟩
    have z1 := z1.to hidS_less
    have ea := s1 _ _ ea
    have ed := s1 _ _ ed
    have kp : ∀ b o, b ≠ a → H b = some o → C1 b = some o := fun b o nb e => s1 _ _ (kp b o nb e)
    have z0 := z0.to (hidS_mono s1)
    refine ⟨_, rfl, a, C, rfl, G, nf _ (by simp), .inr ⟨dx, [(Str.ofString "why", v0)], ea, ed, (by show 1 ≤ 900; decide), ?_⟩⟩
    generalize hP : upd C1 dx (exd dx ((Str.ofString "found", v1) :: [(Str.ofString "why", v0)])) = P1
    obtain ⟨ed, ea, kp, kd⟩ := putB hP kp ea ed ndH ne
    clear hP
    have z1 := z1.kd (keepD_hidS kd)
    have z0 := z0.kd (keepD_hidS kd)
    refine ⟨_, rfl, a, C, rfl, G, nf _ (by simp), .inr ⟨dx, [(Str.ofString "found", v1), (Str.ofString "why", v0)], ea, ed, (by show 2 ≤ 900; decide), ?_⟩⟩
    generalize hP : upd P1 dx (exd dx ((Str.ofString "code", V.str (Str.ofString "NoTable")) :: [(Str.ofString "found", v1), (Str.ofString "why", v0)])) = P9
    obtain ⟨ed, ea, kp, kd⟩ := putB hP kp ea ed ndH ne
    clear hP
    have z1 := z1.kd (keepD_hidS kd)
    have z0 := z0.kd (keepD_hidS kd)
    exact q _ [v0, v1] dx kp (.cons z0 (.cons z1 .nil)) ndH ne ea ed
end
end Th
namespace Th
open PySem PySem.Spec PyProof.Rows L2
theorem sc_c_Taken_init : FnScope ["self", "name"] ["self", "name"] (defScope s_c_Taken_init) := ⟨rfl, rfl, rfl, by decide +kernel, rfl, by decide +kernel, by decide +kernel⟩

section
variable {P : Program} {w : World} {K : PySem.W.Frag} {mg : Str → Option Value} {base : Heap} {CB : Addr}
theorem has_c_Taken_init {fI : Addr} {fd : FuncData} (Z : Zs mg) (F : Fun K "__init__" "Taken.__init__" s_c_Taken_init fI fd) (h_p_copied : Has P w K mg base "copied" s_p_copied 6 ["value"] (spCopy K 6)) : FnOk P w K mg base CX0 7 fI fd ["self", "name"] (spInitN K "Taken" ["name"] 6) := by
  obtain ⟨f_p_copied, fd_p_copied, G_p_copied, m_p_copied, k_p_copied, b_p_copied, F_p_copied⟩ := h_p_copied
  refine F.ok sc_c_Taken_init (fun vs H Q E h => ?_) (fun cdv A outer s H vs Q E hr h => ?_)
  · obtain ⟨a, C, ws, ds, S, rfl, _, _, _, _, _, al, _, hl, _⟩ := h
    show ws.length + 1 = _
    rw [al.len, hl]
    rfl
  · obtain ⟨a, C, ws, ds, S, rfl, hS, na, G, nf, ea, al, lv, hl, q⟩ := h
    obtain ⟨d0, rfl⟩ : ∃ (d0 : PyData), ds = [d0] := match ds, hl with | [d0], _ => ⟨d0, rfl⟩
    obtain ⟨w0, rfl, r0⟩ : ∃ (w0 : V), ws = [w0] ∧ Da K (hidS S H) w0 d0 := by
      cases al with
      | cons r0 al =>
        cases al
        exact ⟨_, rfl, r0⟩
    refine ⟨_, (pss_cons (ps_put (pv 0) (pe_call G_p_copied (hr.mono (by decide)) (by rfl) m_p_copied k_p_copied b_p_copied .nil pass0 (pa_cons (pv 1) pa_nil))) (pss_one (ps_put (pv 0) pe_str))), ?_⟩
    have kp : ∀ b o, b ≠ a → H b = some o → H b = some o := fun _ _ _ e => e
    have ea0 := ea
    refine ⟨_, rfl, w0, d0, fun b => S b ∨ b = a, rfl, hidA_ne hS na kp ea, hidA ea0 kp r0, lv d0 (by simp), fun v0 C0 s0 z0 => ?_⟩
    have z0 := z0.to hidS_less
    have ea := s0 _ _ ea
    have kp : ∀ b o, b ≠ a → H b = some o → C0 b = some o := fun b o nb e => s0 _ _ (kp b o nb e)
    refine ⟨_, rfl, a, C, rfl, G, nf _ (by simp), .inl ⟨ea, fun dx nd ne => ?_⟩⟩
    generalize hP : upd (upd C0 dx (exd dx [(Str.ofString "name", v0)])) a (exo a C (some dx)) = P0
    obtain ⟨ed, ea, kp, kd, ndH⟩ := putA hP kp ea nd ne
    clear hP
    have z0 := z0.kd (keepD_hidS kd)
    refine ⟨_, rfl, a, C, rfl, G, nf _ (by simp), .inr ⟨dx, [(Str.ofString "name", v0)], ea, ed, (by show 1 ≤ 900; decide), ?_⟩⟩
    generalize hP : upd P0 dx (exd dx ((Str.ofString "code", V.str (Str.ofString "Taken")) :: [(Str.ofString "name", v0)])) = P9
    obtain ⟨ed, ea, kp, kd⟩ := putB hP kp ea ed ndH ne
    clear hP
    have z0 := z0.kd (keepD_hidS kd)
    exact q _ [v0] dx kp (.cons z0 .nil) ndH ne ea ed
end
end Th
namespace Th
open PySem PySem.Spec PyProof.Rows L2
theorem sc_c_InUse_init : FnScope ["self", "mark"] ["self", "mark"] (defScope s_c_InUse_init) := ⟨rfl, rfl, rfl, by decide +kernel, rfl, by decide +kernel, by decide +kernel⟩

section
variable {P : Program} {w : World} {K : PySem.W.Frag} {mg : Str → Option Value} {base : Heap} {CB : Addr}
theorem has_c_InUse_init {fI : Addr} {fd : FuncData} (Z : Zs mg) (F : Fun K "__init__" "InUse.__init__" s_c_InUse_init fI fd) (h_p_copied : Has P w K mg base "copied" s_p_copied 6 ["value"] (spCopy K 6)) : FnOk P w K mg base CX0 7 fI fd ["self", "mark"] (spInitN K "InUse" ["mark"] 6) := by
  obtain ⟨f_p_copied, fd_p_copied, G_p_copied, m_p_copied, k_p_copied, b_p_copied, F_p_copied⟩ := h_p_copied
  refine F.ok sc_c_InUse_init (fun vs H Q E h => ?_) (fun cdv A outer s H vs Q E hr h => ?_)
  · obtain ⟨a, C, ws, ds, S, rfl, _, _, _, _, _, al, _, hl, _⟩ := h
    show ws.length + 1 = _
    rw [al.len, hl]
    rfl
  · obtain ⟨a, C, ws, ds, S, rfl, hS, na, G, nf, ea, al, lv, hl, q⟩ := h
    obtain ⟨d0, rfl⟩ : ∃ (d0 : PyData), ds = [d0] := match ds, hl with | [d0], _ => ⟨d0, rfl⟩
    obtain ⟨w0, rfl, r0⟩ : ∃ (w0 : V), ws = [w0] ∧ Da K (hidS S H) w0 d0 := by
      cases al with
      | cons r0 al =>
        cases al
        exact ⟨_, rfl, r0⟩
    refine ⟨_, (pss_cons (ps_put (pv 0) (pe_call G_p_copied (hr.mono (by decide)) (by rfl) m_p_copied k_p_copied b_p_copied .nil pass0 (pa_cons (pv 1) pa_nil))) (pss_one (ps_put (pv 0) pe_str))), ?_⟩
    have kp : ∀ b o, b ≠ a → H b = some o → H b = some o := fun _ _ _ e => e
    have ea0 := ea
    refine ⟨_, rfl, w0, d0, fun b => S b ∨ b = a, rfl, hidA_ne hS na kp ea, hidA ea0 kp r0, lv d0 (by simp), fun v0 C0 s0 z0 => ?_⟩
    have z0 := z0.to hidS_less
    have ea := s0 _ _ ea
    have kp : ∀ b o, b ≠ a → H b = some o → C0 b = some o := fun b o nb e => s0 _ _ (kp b o nb e)
    refine ⟨_, rfl, a, C, rfl, G, nf _ (by simp), .inl ⟨ea, fun dx nd ne => ?_⟩⟩
    generalize hP : upd (upd C0 dx (exd dx [(Str.ofString "mark", v0)])) a (exo a C (some dx)) = P0
    obtain ⟨ed, ea, kp, kd, ndH⟩ := putA hP kp ea nd ne
    clear hP
    have z0 := z0.kd (keepD_hidS kd)
    refine ⟨_, rfl, a, C, rfl, G, nf _ (by simp), .inr ⟨dx, [(Str.ofString "mark", v0)], ea, ed, (by show 1 ≤ 900; decide), ?_⟩⟩
    generalize hP : upd P0 dx (exd dx ((Str.ofString "code", V.str (Str.ofString "InUse")) :: [(Str.ofString "mark", v0)])) = P9
    obtain ⟨ed, ea, kp, kd⟩ := putB hP kp ea ed ndH ne
    clear hP
    have z0 := z0.kd (keepD_hidS kd)
    exact q _ [v0] dx kp (.cons z0 .nil) ndH ne ea ed
end
end Th
namespace Th
open PySem PySem.Spec PyProof.Rows L2
theorem sc_c_NoFinds_init : FnScope ["self"] ["self"] (defScope s_c_NoFinds_init) := ⟨rfl, rfl, rfl, by decide +kernel, rfl, by decide +kernel, by decide +kernel⟩

section
variable {P : Program} {w : World} {K : PySem.W.Frag} {mg : Str → Option Value} {base : Heap} {CB : Addr}
theorem has_c_NoFinds_init {fI : Addr} {fd : FuncData} (Z : Zs mg) (F : Fun K "__init__" "NoFinds.__init__" s_c_NoFinds_init fI fd) (h_p_copied : Has P w K mg base "copied" s_p_copied 6 ["value"] (spCopy K 6)) : FnOk P w K mg base CX0 7 fI fd ["self"] (spInitN K "NoFinds" [] 6) := by
  obtain ⟨f_p_copied, fd_p_copied, G_p_copied, m_p_copied, k_p_copied, b_p_copied, F_p_copied⟩ := h_p_copied
  refine F.ok sc_c_NoFinds_init (fun vs H Q E h => ?_) (fun cdv A outer s H vs Q E hr h => ?_)
  · obtain ⟨a, C, ws, ds, S, rfl, _, _, _, _, _, al, _, hl, _⟩ := h
    show ws.length + 1 = _
    rw [al.len, hl]
    rfl
  · obtain ⟨a, C, ws, ds, S, rfl, hS, na, G, nf, ea, al, lv, hl, q⟩ := h
    obtain rfl : ds = [] := List.length_eq_zero_iff.mp hl
    cases al
    refine ⟨_, (pss_one (ps_put (pv 0) pe_str)), ?_⟩
    have kp : ∀ b o, b ≠ a → H b = some o → H b = some o := fun _ _ _ e => e
    have ea0 := ea
    refine ⟨_, rfl, a, C, rfl, G, nf _ (by simp), .inl ⟨ea, fun dx nd ne => ?_⟩⟩
    generalize hP : upd (upd H dx (exd dx [(Str.ofString "code", V.str (Str.ofString "NoFinds"))])) a (exo a C (some dx)) = P9
    obtain ⟨ed, ea, kp, kd, ndH⟩ := putA hP kp ea nd ne
    clear hP
    exact q _ [] dx kp .nil ndH ne ea ed
end
end Th
namespace Th
open PySem PySem.Spec PyProof.Rows L2
theorem sc_c_UnknownName_init : FnScope ["self", "name"] ["self", "name"] (defScope s_c_UnknownName_init) := ⟨rfl, rfl, rfl, by decide +kernel, rfl, by decide +kernel, by decide +kernel⟩

section
variable {P : Program} {w : World} {K : PySem.W.Frag} {mg : Str → Option Value} {base : Heap} {CB : Addr}
theorem has_c_UnknownName_init {fI : Addr} {fd : FuncData} (Z : Zs mg) (F : Fun K "__init__" "UnknownName.__init__" s_c_UnknownName_init fI fd) (h_p_copied : Has P w K mg base "copied" s_p_copied 6 ["value"] (spCopy K 6)) : FnOk P w K mg base CX0 7 fI fd ["self", "name"] (spInitN K "UnknownName" ["name"] 6) := by
  obtain ⟨f_p_copied, fd_p_copied, G_p_copied, m_p_copied, k_p_copied, b_p_copied, F_p_copied⟩ := h_p_copied
  refine F.ok sc_c_UnknownName_init (fun vs H Q E h => ?_) (fun cdv A outer s H vs Q E hr h => ?_)
  · obtain ⟨a, C, ws, ds, S, rfl, _, _, _, _, _, al, _, hl, _⟩ := h
    show ws.length + 1 = _
    rw [al.len, hl]
    rfl
  · obtain ⟨a, C, ws, ds, S, rfl, hS, na, G, nf, ea, al, lv, hl, q⟩ := h
    obtain ⟨d0, rfl⟩ : ∃ (d0 : PyData), ds = [d0] := match ds, hl with | [d0], _ => ⟨d0, rfl⟩
    obtain ⟨w0, rfl, r0⟩ : ∃ (w0 : V), ws = [w0] ∧ Da K (hidS S H) w0 d0 := by
      cases al with
      | cons r0 al =>
        cases al
        exact ⟨_, rfl, r0⟩
    refine ⟨_, (pss_cons (ps_put (pv 0) (pe_call G_p_copied (hr.mono (by decide)) (by rfl) m_p_copied k_p_copied b_p_copied .nil pass0 (pa_cons (pv 1) pa_nil))) (pss_one (ps_put (pv 0) pe_str))), ?_⟩
    have kp : ∀ b o, b ≠ a → H b = some o → H b = some o := fun _ _ _ e => e
    have ea0 := ea
    refine ⟨_, rfl, w0, d0, fun b => S b ∨ b = a, rfl, hidA_ne hS na kp ea, hidA ea0 kp r0, lv d0 (by simp), fun v0 C0 s0 z0 => ?_⟩
    have z0 := z0.to hidS_less
    have ea := s0 _ _ ea
    have kp : ∀ b o, b ≠ a → H b = some o → C0 b = some o := fun b o nb e => s0 _ _ (kp b o nb e)
    refine ⟨_, rfl, a, C, rfl, G, nf _ (by simp), .inl ⟨ea, fun dx nd ne => ?_⟩⟩
    generalize hP : upd (upd C0 dx (exd dx [(Str.ofString "name", v0)])) a (exo a C (some dx)) = P0
    obtain ⟨ed, ea, kp, kd, ndH⟩ := putA hP kp ea nd ne
    clear hP
    have z0 := z0.kd (keepD_hidS kd)
    refine ⟨_, rfl, a, C, rfl, G, nf _ (by simp), .inr ⟨dx, [(Str.ofString "name", v0)], ea, ed, (by show 1 ≤ 900; decide), ?_⟩⟩
    generalize hP : upd P0 dx (exd dx ((Str.ofString "code", V.str (Str.ofString "UnknownName")) :: [(Str.ofString "name", v0)])) = P9
    obtain ⟨ed, ea, kp, kd⟩ := putB hP kp ea ed ndH ne
    clear hP
    have z0 := z0.kd (keepD_hidS kd)
    exact q _ [v0] dx kp (.cons z0 .nil) ndH ne ea ed
end
end Th
namespace Th
open PySem PySem.Spec PyProof.Rows L2
theorem sc_c_UnknownFind_init : FnScope ["self", "name"] ["self", "name"] (defScope s_c_UnknownFind_init) := ⟨rfl, rfl, rfl, by decide +kernel, rfl, by decide +kernel, by decide +kernel⟩

section
variable {P : Program} {w : World} {K : PySem.W.Frag} {mg : Str → Option Value} {base : Heap} {CB : Addr}
theorem has_c_UnknownFind_init {fI : Addr} {fd : FuncData} (Z : Zs mg) (F : Fun K "__init__" "UnknownFind.__init__" s_c_UnknownFind_init fI fd) (h_p_copied : Has P w K mg base "copied" s_p_copied 6 ["value"] (spCopy K 6)) : FnOk P w K mg base CX0 7 fI fd ["self", "name"] (spInitN K "UnknownFind" ["name"] 6) := by
  obtain ⟨f_p_copied, fd_p_copied, G_p_copied, m_p_copied, k_p_copied, b_p_copied, F_p_copied⟩ := h_p_copied
  refine F.ok sc_c_UnknownFind_init (fun vs H Q E h => ?_) (fun cdv A outer s H vs Q E hr h => ?_)
  · obtain ⟨a, C, ws, ds, S, rfl, _, _, _, _, _, al, _, hl, _⟩ := h
    show ws.length + 1 = _
    rw [al.len, hl]
    rfl
  · obtain ⟨a, C, ws, ds, S, rfl, hS, na, G, nf, ea, al, lv, hl, q⟩ := h
    obtain ⟨d0, rfl⟩ : ∃ (d0 : PyData), ds = [d0] := match ds, hl with | [d0], _ => ⟨d0, rfl⟩
    obtain ⟨w0, rfl, r0⟩ : ∃ (w0 : V), ws = [w0] ∧ Da K (hidS S H) w0 d0 := by
      cases al with
      | cons r0 al =>
        cases al
        exact ⟨_, rfl, r0⟩
    refine ⟨_, (pss_cons (ps_put (pv 0) (pe_call G_p_copied (hr.mono (by decide)) (by rfl) m_p_copied k_p_copied b_p_copied .nil pass0 (pa_cons (pv 1) pa_nil))) (pss_one (ps_put (pv 0) pe_str))), ?_⟩
    have kp : ∀ b o, b ≠ a → H b = some o → H b = some o := fun _ _ _ e => e
    have ea0 := ea
    refine ⟨_, rfl, w0, d0, fun b => S b ∨ b = a, rfl, hidA_ne hS na kp ea, hidA ea0 kp r0, lv d0 (by simp), fun v0 C0 s0 z0 => ?_⟩
    have z0 := z0.to hidS_less
    have ea := s0 _ _ ea
    have kp : ∀ b o, b ≠ a → H b = some o → C0 b = some o := fun b o nb e => s0 _ _ (kp b o nb e)
    refine ⟨_, rfl, a, C, rfl, G, nf _ (by simp), .inl ⟨ea, fun dx nd ne => ?_⟩⟩
    generalize hP : upd (upd C0 dx (exd dx [(Str.ofString "name", v0)])) a (exo a C (some dx)) = P0
    obtain ⟨ed, ea, kp, kd, ndH⟩ := putA hP kp ea nd ne
    clear hP
    have z0 := z0.kd (keepD_hidS kd)
    refine ⟨_, rfl, a, C, rfl, G, nf _ (by simp), .inr ⟨dx, [(Str.ofString "name", v0)], ea, ed, (by show 1 ≤ 900; decide), ?_⟩⟩
    generalize hP : upd P0 dx (exd dx ((Str.ofString "code", V.str (Str.ofString "UnknownFind")) :: [(Str.ofString "name", v0)])) = P9
    obtain ⟨ed, ea, kp, kd⟩ := putB hP kp ea ed ndH ne
    clear hP
    have z0 := z0.kd (keepD_hidS kd)
    exact q _ [v0] dx kp (.cons z0 .nil) ndH ne ea ed
end
end Th
namespace Th
open PySem PySem.Spec PyProof.Rows L2
theorem sc_c_UnknownNode_init : FnScope ["self", "lot"] ["self", "lot"] (defScope s_c_UnknownNode_init) := ⟨rfl, rfl, rfl, by decide +kernel, rfl, by decide +kernel, by decide +kernel⟩

section
variable {P : Program} {w : World} {K : PySem.W.Frag} {mg : Str → Option Value} {base : Heap} {CB : Addr}
theorem has_c_UnknownNode_init {fI : Addr} {fd : FuncData} (Z : Zs mg) (F : Fun K "__init__" "UnknownNode.__init__" s_c_UnknownNode_init fI fd) (h_p_copied : Has P w K mg base "copied" s_p_copied 6 ["value"] (spCopy K 6)) : FnOk P w K mg base CX0 7 fI fd ["self", "lot"] (spInitN K "UnknownNode" ["lot"] 6) := by
  obtain ⟨f_p_copied, fd_p_copied, G_p_copied, m_p_copied, k_p_copied, b_p_copied, F_p_copied⟩ := h_p_copied
  refine F.ok sc_c_UnknownNode_init (fun vs H Q E h => ?_) (fun cdv A outer s H vs Q E hr h => ?_)
  · obtain ⟨a, C, ws, ds, S, rfl, _, _, _, _, _, al, _, hl, _⟩ := h
    show ws.length + 1 = _
    rw [al.len, hl]
    rfl
  · obtain ⟨a, C, ws, ds, S, rfl, hS, na, G, nf, ea, al, lv, hl, q⟩ := h
    obtain ⟨d0, rfl⟩ : ∃ (d0 : PyData), ds = [d0] := match ds, hl with | [d0], _ => ⟨d0, rfl⟩
    obtain ⟨w0, rfl, r0⟩ : ∃ (w0 : V), ws = [w0] ∧ Da K (hidS S H) w0 d0 := by
      cases al with
      | cons r0 al =>
        cases al
        exact ⟨_, rfl, r0⟩
    refine ⟨_, (pss_cons (ps_put (pv 0) (pe_call G_p_copied (hr.mono (by decide)) (by rfl) m_p_copied k_p_copied b_p_copied .nil pass0 (pa_cons (pv 1) pa_nil))) (pss_one (ps_put (pv 0) pe_str))), ?_⟩
    have kp : ∀ b o, b ≠ a → H b = some o → H b = some o := fun _ _ _ e => e
    have ea0 := ea
    refine ⟨_, rfl, w0, d0, fun b => S b ∨ b = a, rfl, hidA_ne hS na kp ea, hidA ea0 kp r0, lv d0 (by simp), fun v0 C0 s0 z0 => ?_⟩
    have z0 := z0.to hidS_less
    have ea := s0 _ _ ea
    have kp : ∀ b o, b ≠ a → H b = some o → C0 b = some o := fun b o nb e => s0 _ _ (kp b o nb e)
    refine ⟨_, rfl, a, C, rfl, G, nf _ (by simp), .inl ⟨ea, fun dx nd ne => ?_⟩⟩
    generalize hP : upd (upd C0 dx (exd dx [(Str.ofString "lot", v0)])) a (exo a C (some dx)) = P0
    obtain ⟨ed, ea, kp, kd, ndH⟩ := putA hP kp ea nd ne
    clear hP
    have z0 := z0.kd (keepD_hidS kd)
    refine ⟨_, rfl, a, C, rfl, G, nf _ (by simp), .inr ⟨dx, [(Str.ofString "lot", v0)], ea, ed, (by show 1 ≤ 900; decide), ?_⟩⟩
    generalize hP : upd P0 dx (exd dx ((Str.ofString "code", V.str (Str.ofString "UnknownNode")) :: [(Str.ofString "lot", v0)])) = P9
    obtain ⟨ed, ea, kp, kd⟩ := putB hP kp ea ed ndH ne
    clear hP
    have z0 := z0.kd (keepD_hidS kd)
    exact q _ [v0] dx kp (.cons z0 .nil) ndH ne ea ed
end
end Th
namespace Th
open PySem PySem.Spec PyProof.Rows L2
theorem sc_c_UnknownKept_init : FnScope ["self", "at"] ["self", "at"] (defScope s_c_UnknownKept_init) := ⟨rfl, rfl, rfl, by decide +kernel, rfl, by decide +kernel, by decide +kernel⟩

section
variable {P : Program} {w : World} {K : PySem.W.Frag} {mg : Str → Option Value} {base : Heap} {CB : Addr}
theorem has_c_UnknownKept_init {fI : Addr} {fd : FuncData} (Z : Zs mg) (F : Fun K "__init__" "UnknownKept.__init__" s_c_UnknownKept_init fI fd) (h_p_copied : Has P w K mg base "copied" s_p_copied 6 ["value"] (spCopy K 6)) : FnOk P w K mg base CX0 7 fI fd ["self", "at"] (spInitN K "UnknownKept" ["at"] 6) := by
  obtain ⟨f_p_copied, fd_p_copied, G_p_copied, m_p_copied, k_p_copied, b_p_copied, F_p_copied⟩ := h_p_copied
  refine F.ok sc_c_UnknownKept_init (fun vs H Q E h => ?_) (fun cdv A outer s H vs Q E hr h => ?_)
  · obtain ⟨a, C, ws, ds, S, rfl, _, _, _, _, _, al, _, hl, _⟩ := h
    show ws.length + 1 = _
    rw [al.len, hl]
    rfl
  · obtain ⟨a, C, ws, ds, S, rfl, hS, na, G, nf, ea, al, lv, hl, q⟩ := h
    obtain ⟨d0, rfl⟩ : ∃ (d0 : PyData), ds = [d0] := match ds, hl with | [d0], _ => ⟨d0, rfl⟩
    obtain ⟨w0, rfl, r0⟩ : ∃ (w0 : V), ws = [w0] ∧ Da K (hidS S H) w0 d0 := by
      cases al with
      | cons r0 al =>
        cases al
        exact ⟨_, rfl, r0⟩
    refine ⟨_, (pss_cons (ps_put (pv 0) (pe_call G_p_copied (hr.mono (by decide)) (by rfl) m_p_copied k_p_copied b_p_copied .nil pass0 (pa_cons (pv 1) pa_nil))) (pss_one (ps_put (pv 0) pe_str))), ?_⟩
    have kp : ∀ b o, b ≠ a → H b = some o → H b = some o := fun _ _ _ e => e
    have ea0 := ea
    refine ⟨_, rfl, w0, d0, fun b => S b ∨ b = a, rfl, hidA_ne hS na kp ea, hidA ea0 kp r0, lv d0 (by simp), fun v0 C0 s0 z0 => ?_⟩
    have z0 := z0.to hidS_less
    have ea := s0 _ _ ea
    have kp : ∀ b o, b ≠ a → H b = some o → C0 b = some o := fun b o nb e => s0 _ _ (kp b o nb e)
    refine ⟨_, rfl, a, C, rfl, G, nf _ (by simp), .inl ⟨ea, fun dx nd ne => ?_⟩⟩
    generalize hP : upd (upd C0 dx (exd dx [(Str.ofString "at", v0)])) a (exo a C (some dx)) = P0
    obtain ⟨ed, ea, kp, kd, ndH⟩ := putA hP kp ea nd ne
    clear hP
    have z0 := z0.kd (keepD_hidS kd)
    refine ⟨_, rfl, a, C, rfl, G, nf _ (by simp), .inr ⟨dx, [(Str.ofString "at", v0)], ea, ed, (by show 1 ≤ 900; decide), ?_⟩⟩
    generalize hP : upd P0 dx (exd dx ((Str.ofString "code", V.str (Str.ofString "UnknownKept")) :: [(Str.ofString "at", v0)])) = P9
    obtain ⟨ed, ea, kp, kd⟩ := putB hP kp ea ed ndH ne
    clear hP
    have z0 := z0.kd (keepD_hidS kd)
    exact q _ [v0] dx kp (.cons z0 .nil) ndH ne ea ed
end
end Th
namespace Th
open PySem PySem.Spec PyProof.Rows L2
theorem sc_c_NothingLeft_init : FnScope ["self"] ["self"] (defScope s_c_NothingLeft_init) := ⟨rfl, rfl, rfl, by decide +kernel, rfl, by decide +kernel, by decide +kernel⟩

section
variable {P : Program} {w : World} {K : PySem.W.Frag} {mg : Str → Option Value} {base : Heap} {CB : Addr}
theorem has_c_NothingLeft_init {fI : Addr} {fd : FuncData} (Z : Zs mg) (F : Fun K "__init__" "NothingLeft.__init__" s_c_NothingLeft_init fI fd) (h_p_copied : Has P w K mg base "copied" s_p_copied 6 ["value"] (spCopy K 6)) : FnOk P w K mg base CX0 7 fI fd ["self"] (spInitN K "NothingLeft" [] 6) := by
  obtain ⟨f_p_copied, fd_p_copied, G_p_copied, m_p_copied, k_p_copied, b_p_copied, F_p_copied⟩ := h_p_copied
  refine F.ok sc_c_NothingLeft_init (fun vs H Q E h => ?_) (fun cdv A outer s H vs Q E hr h => ?_)
  · obtain ⟨a, C, ws, ds, S, rfl, _, _, _, _, _, al, _, hl, _⟩ := h
    show ws.length + 1 = _
    rw [al.len, hl]
    rfl
  · obtain ⟨a, C, ws, ds, S, rfl, hS, na, G, nf, ea, al, lv, hl, q⟩ := h
    obtain rfl : ds = [] := List.length_eq_zero_iff.mp hl
    cases al
    refine ⟨_, (pss_one (ps_put (pv 0) pe_str)), ?_⟩
    have kp : ∀ b o, b ≠ a → H b = some o → H b = some o := fun _ _ _ e => e
    have ea0 := ea
    refine ⟨_, rfl, a, C, rfl, G, nf _ (by simp), .inl ⟨ea, fun dx nd ne => ?_⟩⟩
    generalize hP : upd (upd H dx (exd dx [(Str.ofString "code", V.str (Str.ofString "NothingLeft"))])) a (exo a C (some dx)) = P9
    obtain ⟨ed, ea, kp, kd, ndH⟩ := putA hP kp ea nd ne
    clear hP
    exact q _ [] dx kp .nil ndH ne ea ed
end
end Th
namespace Th
open PySem PySem.Spec PyProof.Rows L2
theorem sc_l_by_place : FnScope ["_law_x", "_law_y", "_law_z"] ["_law_x", "_law_y", "_law_z"] (defScope s_l_by_place) := ⟨rfl, rfl, rfl, by decide +kernel, rfl, by decide +kernel, by decide +kernel⟩
/-- errors in a list, by their names -/
def ExAll (K : PySem.W.Frag) (mg : Str → Option Value) (H : Hp) (dx dy dz : PyData) (us : List V) (ns : List Str) : Prop := us.length = ns.length ∧ ∀ (k : Nat) (n : Str), ns[k]? = some n → ∃ v, us[k]? = some v ∧ ExV K mg H v n ([dx, dy, dz].take (fldsN n).length)
theorem ExAll.nil {K : PySem.W.Frag} {mg : Str → Option Value} {H : Hp} {dx dy dz : PyData} : ExAll K mg H dx dy dz [] [] := ⟨rfl, fun k n h => by cases h⟩
theorem ExAll.snoc {K : PySem.W.Frag} {mg : Str → Option Value} {H H' : Hp} {dx dy dz : PyData} {us : List V} {ns : List Str} {v : V} {n : Str} {ds : List PyData} (h : ExAll K mg H dx dy dz us ns) (s : Same H H') (e : ExV K mg H' v n ds) (hd : [dx, dy, dz].take (fldsN n).length = ds) : ExAll K mg H' dx dy dz (us ++ [v]) (ns ++ [n]) := by
  obtain ⟨l, h⟩ := h
  refine ⟨by rw [List.length_append, List.length_append, l]; rfl, fun k m hk => ?_⟩
  by_cases c : k < ns.length
  · rw [List.getElem?_append_left c] at hk
    obtain ⟨u, hu, eu⟩ := h k m hk
    exact ⟨u, by rw [List.getElem?_append_left (by omega)]; exact hu, eu.to s⟩
  · have hl := lt_of_get hk
    rw [List.length_append, List.length_singleton] at hl
    have : k = ns.length := by omega
    subst this
    rw [List.getElem?_append_right (by omega), Nat.sub_self] at hk
    cases hk
    exact ⟨v, by rw [← l, List.getElem?_append_right (by omega), Nat.sub_self]; rfl, by rw [hd]; exact e⟩
theorem ExAll.to {K : PySem.W.Frag} {mg : Str → Option Value} {H H' : Hp} {dx dy dz : PyData} {us : List V} {ns : List Str} (h : ExAll K mg H dx dy dz us ns) (s : Same H H') : ExAll K mg H' dx dy dz us ns := ⟨h.1, fun k n hk => by
  obtain ⟨v, hv, e⟩ := h.2 k n hk
  exact ⟨v, hv, e.to s⟩⟩
/-- all errors, made of three values -/
def spByE (K : PySem.W.Frag) (mg : Str → Option Value) : Sp := fun vs H Q _ => ∃ (x y z : V) (dx dy dz : PyData), vs = [x, y, z] ∧ Da K H x dx ∧ Da K H y dy ∧ Da K H z dz ∧ LvN 6 dx ∧ LvN 6 dy ∧ LvN 6 dz ∧
  ∀ (L : Addr) (us : List V) H', Same H H' → H' L = some (.lst us) → ExAll K mg H' dx dy dz us errN → Q (.ref L) H'
section
variable {P : Program} {w : World} {K : PySem.W.Frag} {mg : Str → Option Value} {base : Heap} {CB : Addr}
theorem has_l_by_place (Z : Zs mg) (A : At K mg "_law_by_place" s_l_by_place ["_law_x", "_law_y", "_law_z"]) (h_c_InvalidName_init : HasE0 P w K mg base "InvalidName" "InvalidName.__init__" s_c_InvalidName_init ["self", "value"] ["value", "code"] 7 (spInitN K "InvalidName" ["value"] 6)) (h_c_InvalidLot_init : HasE0 P w K mg base "InvalidLot" "InvalidLot.__init__" s_c_InvalidLot_init ["self", "at"] ["at", "code"] 7 (spInitN K "InvalidLot" ["at"] 6)) (h_c_InvalidFind_init : HasE0 P w K mg base "InvalidFind" "InvalidFind.__init__" s_c_InvalidFind_init ["self", "at"] ["at", "code"] 7 (spInitN K "InvalidFind" ["at"] 6)) (h_c_InvalidWord_init : HasE0 P w K mg base "InvalidWord" "InvalidWord.__init__" s_c_InvalidWord_init ["self", "at"] ["at", "code"] 7 (spInitN K "InvalidWord" ["at"] 6)) (h_c_InvalidFact_init : HasE0 P w K mg base "InvalidFact" "InvalidFact.__init__" s_c_InvalidFact_init ["self", "at"] ["at", "code"] 7 (spInitN K "InvalidFact" ["at"] 6)) (h_c_InvalidOrder_init : HasE0 P w K mg base "InvalidOrder" "InvalidOrder.__init__" s_c_InvalidOrder_init ["self", "at"] ["at", "code"] 7 (spInitN K "InvalidOrder" ["at"] 6)) (h_c_InvalidKind_init : HasE0 P w K mg base "InvalidKind" "InvalidKind.__init__" s_c_InvalidKind_init ["self", "at"] ["at", "code"] 7 (spInitN K "InvalidKind" ["at"] 6)) (h_c_InvalidPair_init : HasE0 P w K mg base "InvalidPair" "InvalidPair.__init__" s_c_InvalidPair_init ["self", "at"] ["at", "code"] 7 (spInitN K "InvalidPair" ["at"] 6)) (h_c_InvalidDeed_init : HasE0 P w K mg base "InvalidDeed" "InvalidDeed.__init__" s_c_InvalidDeed_init ["self", "at"] ["at", "code"] 7 (spInitN K "InvalidDeed" ["at"] 6)) (h_c_InvalidText_init : HasE0 P w K mg base "InvalidText" "InvalidText.__init__" s_c_InvalidText_init ["self", "line", "why"] ["line", "why", "code"] 7 (spInitN K "InvalidText" ["line", "why"] 6)) (h_c_InvalidNumber_init : HasE0 P w K mg base "InvalidNumber" "InvalidNumber.__init__" s_c_InvalidNumber_init ["self", "value"] ["value", "code"] 7 (spInitN K "InvalidNumber" ["value"] 6)) (h_c_InvalidStatement_init : HasE0 P w K mg base "InvalidStatement" "InvalidStatement.__init__" s_c_InvalidStatement_init ["self"] ["code"] 7 (spInitN K "InvalidStatement" [] 6)) (h_c_InvalidQuestion_init : HasE0 P w K mg base "InvalidQuestion" "InvalidQuestion.__init__" s_c_InvalidQuestion_init ["self"] ["code"] 7 (spInitN K "InvalidQuestion" [] 6)) (h_c_InvalidClaim_init : HasE0 P w K mg base "InvalidClaim" "InvalidClaim.__init__" s_c_InvalidClaim_init ["self"] ["code"] 7 (spInitN K "InvalidClaim" [] 6)) (h_c_InvalidTimes_init : HasE0 P w K mg base "InvalidTimes" "InvalidTimes.__init__" s_c_InvalidTimes_init ["self", "name"] ["name", "code"] 7 (spInitN K "InvalidTimes" ["name"] 6)) (h_c_InvalidWeights_init : HasE0 P w K mg base "InvalidWeights" "InvalidWeights.__init__" s_c_InvalidWeights_init ["self", "name"] ["name", "code"] 7 (spInitN K "InvalidWeights" ["name"] 6)) (h_c_DuplicateName_init : HasE0 P w K mg base "DuplicateName" "DuplicateName.__init__" s_c_DuplicateName_init ["self", "name"] ["name", "code"] 7 (spInitN K "DuplicateName" ["name"] 6)) (h_c_TooMany_init : HasE0 P w K mg base "TooMany" "TooMany.__init__" s_c_TooMany_init ["self", "most"] ["most", "code"] 7 (spInitN K "TooMany" ["most"] 6)) (h_c_TooFew_init : HasE0 P w K mg base "TooFew" "TooFew.__init__" s_c_TooFew_init ["self", "least"] ["least", "code"] 7 (spInitN K "TooFew" ["least"] 6)) (h_c_CannotStand_init : HasE0 P w K mg base "CannotStand" "CannotStand.__init__" s_c_CannotStand_init ["self", "one", "two", "three"] ["one", "two", "three", "code"] 7 (spInitN K "CannotStand" ["one", "two", "three"] 6)) (h_c_Standing_init : HasE0 P w K mg base "Standing" "Standing.__init__" s_c_Standing_init ["self"] ["code"] 7 (spInitN K "Standing" [] 6)) (h_c_Clash_init : HasE0 P w K mg base "Clash" "Clash.__init__" s_c_Clash_init ["self", "marks"] ["marks", "code"] 7 (spInitN K "Clash" ["marks"] 6)) (h_c_NotFitting_init : HasE0 P w K mg base "NotFitting" "NotFitting.__init__" s_c_NotFitting_init ["self"] ["code"] 7 (spInitN K "NotFitting" [] 6)) (h_c_NotShown_init : HasE0 P w K mg base "NotShown" "NotShown.__init__" s_c_NotShown_init ["self"] ["code"] 7 (spInitN K "NotShown" [] 6)) (h_c_NotABlock_init : HasE0 P w K mg base "NotABlock" "NotABlock.__init__" s_c_NotABlock_init ["self", "lot"] ["lot", "code"] 7 (spInitN K "NotABlock" ["lot"] 6)) (h_c_OtherFinds_init : HasE0 P w K mg base "OtherFinds" "OtherFinds.__init__" s_c_OtherFinds_init ["self"] ["code"] 7 (spInitN K "OtherFinds" [] 6)) (h_c_Same_init : HasE0 P w K mg base "Same" "Same.__init__" s_c_Same_init ["self", "name"] ["name", "code"] 7 (spInitN K "Same" ["name"] 6)) (h_c_NoTable_init : HasE0 P w K mg base "NoTable" "NoTable.__init__" s_c_NoTable_init ["self", "why", "found"] ["why", "found", "code"] 7 (spInitN K "NoTable" ["why", "found"] 6)) (h_c_Taken_init : HasE0 P w K mg base "Taken" "Taken.__init__" s_c_Taken_init ["self", "name"] ["name", "code"] 7 (spInitN K "Taken" ["name"] 6)) (h_c_InUse_init : HasE0 P w K mg base "InUse" "InUse.__init__" s_c_InUse_init ["self", "mark"] ["mark", "code"] 7 (spInitN K "InUse" ["mark"] 6)) (h_c_NoFinds_init : HasE0 P w K mg base "NoFinds" "NoFinds.__init__" s_c_NoFinds_init ["self"] ["code"] 7 (spInitN K "NoFinds" [] 6)) (h_c_UnknownName_init : HasE0 P w K mg base "UnknownName" "UnknownName.__init__" s_c_UnknownName_init ["self", "name"] ["name", "code"] 7 (spInitN K "UnknownName" ["name"] 6)) (h_c_UnknownFind_init : HasE0 P w K mg base "UnknownFind" "UnknownFind.__init__" s_c_UnknownFind_init ["self", "name"] ["name", "code"] 7 (spInitN K "UnknownFind" ["name"] 6)) (h_c_UnknownNode_init : HasE0 P w K mg base "UnknownNode" "UnknownNode.__init__" s_c_UnknownNode_init ["self", "lot"] ["lot", "code"] 7 (spInitN K "UnknownNode" ["lot"] 6)) (h_c_UnknownKept_init : HasE0 P w K mg base "UnknownKept" "UnknownKept.__init__" s_c_UnknownKept_init ["self", "at"] ["at", "code"] 7 (spInitN K "UnknownKept" ["at"] 6)) (h_c_NothingLeft_init : HasE0 P w K mg base "NothingLeft" "NothingLeft.__init__" s_c_NothingLeft_init ["self"] ["code"] 7 (spInitN K "NothingLeft" [] 6)) : Has P w K mg base "_law_by_place" s_l_by_place 11 ["_law_x", "_law_y", "_law_z"] (spByE K mg) := by
  obtain ⟨f, fd, F, mg1, bd⟩ := A
  obtain ⟨C_c_InvalidName_init, fI_c_InvalidName_init, fd_c_InvalidName_init, E_c_InvalidName_init, G_c_InvalidName_init⟩ := h_c_InvalidName_init
  obtain ⟨C_c_InvalidLot_init, fI_c_InvalidLot_init, fd_c_InvalidLot_init, E_c_InvalidLot_init, G_c_InvalidLot_init⟩ := h_c_InvalidLot_init
  obtain ⟨C_c_InvalidFind_init, fI_c_InvalidFind_init, fd_c_InvalidFind_init, E_c_InvalidFind_init, G_c_InvalidFind_init⟩ := h_c_InvalidFind_init
  obtain ⟨C_c_InvalidWord_init, fI_c_InvalidWord_init, fd_c_InvalidWord_init, E_c_InvalidWord_init, G_c_InvalidWord_init⟩ := h_c_InvalidWord_init
  obtain ⟨C_c_InvalidFact_init, fI_c_InvalidFact_init, fd_c_InvalidFact_init, E_c_InvalidFact_init, G_c_InvalidFact_init⟩ := h_c_InvalidFact_init
  obtain ⟨C_c_InvalidOrder_init, fI_c_InvalidOrder_init, fd_c_InvalidOrder_init, E_c_InvalidOrder_init, G_c_InvalidOrder_init⟩ := h_c_InvalidOrder_init
  obtain ⟨C_c_InvalidKind_init, fI_c_InvalidKind_init, fd_c_InvalidKind_init, E_c_InvalidKind_init, G_c_InvalidKind_init⟩ := h_c_InvalidKind_init
  obtain ⟨C_c_InvalidPair_init, fI_c_InvalidPair_init, fd_c_InvalidPair_init, E_c_InvalidPair_init, G_c_InvalidPair_init⟩ := h_c_InvalidPair_init
  obtain ⟨C_c_InvalidDeed_init, fI_c_InvalidDeed_init, fd_c_InvalidDeed_init, E_c_InvalidDeed_init, G_c_InvalidDeed_init⟩ := h_c_InvalidDeed_init
  obtain ⟨C_c_InvalidText_init, fI_c_InvalidText_init, fd_c_InvalidText_init, E_c_InvalidText_init, G_c_InvalidText_init⟩ := h_c_InvalidText_init
  obtain ⟨C_c_InvalidNumber_init, fI_c_InvalidNumber_init, fd_c_InvalidNumber_init, E_c_InvalidNumber_init, G_c_InvalidNumber_init⟩ := h_c_InvalidNumber_init
  obtain ⟨C_c_InvalidStatement_init, fI_c_InvalidStatement_init, fd_c_InvalidStatement_init, E_c_InvalidStatement_init, G_c_InvalidStatement_init⟩ := h_c_InvalidStatement_init
  obtain ⟨C_c_InvalidQuestion_init, fI_c_InvalidQuestion_init, fd_c_InvalidQuestion_init, E_c_InvalidQuestion_init, G_c_InvalidQuestion_init⟩ := h_c_InvalidQuestion_init
  obtain ⟨C_c_InvalidClaim_init, fI_c_InvalidClaim_init, fd_c_InvalidClaim_init, E_c_InvalidClaim_init, G_c_InvalidClaim_init⟩ := h_c_InvalidClaim_init
  obtain ⟨C_c_InvalidTimes_init, fI_c_InvalidTimes_init, fd_c_InvalidTimes_init, E_c_InvalidTimes_init, G_c_InvalidTimes_init⟩ := h_c_InvalidTimes_init
  obtain ⟨C_c_InvalidWeights_init, fI_c_InvalidWeights_init, fd_c_InvalidWeights_init, E_c_InvalidWeights_init, G_c_InvalidWeights_init⟩ := h_c_InvalidWeights_init
  obtain ⟨C_c_DuplicateName_init, fI_c_DuplicateName_init, fd_c_DuplicateName_init, E_c_DuplicateName_init, G_c_DuplicateName_init⟩ := h_c_DuplicateName_init
  obtain ⟨C_c_TooMany_init, fI_c_TooMany_init, fd_c_TooMany_init, E_c_TooMany_init, G_c_TooMany_init⟩ := h_c_TooMany_init
  obtain ⟨C_c_TooFew_init, fI_c_TooFew_init, fd_c_TooFew_init, E_c_TooFew_init, G_c_TooFew_init⟩ := h_c_TooFew_init
  obtain ⟨C_c_CannotStand_init, fI_c_CannotStand_init, fd_c_CannotStand_init, E_c_CannotStand_init, G_c_CannotStand_init⟩ := h_c_CannotStand_init
  obtain ⟨C_c_Standing_init, fI_c_Standing_init, fd_c_Standing_init, E_c_Standing_init, G_c_Standing_init⟩ := h_c_Standing_init
  obtain ⟨C_c_Clash_init, fI_c_Clash_init, fd_c_Clash_init, E_c_Clash_init, G_c_Clash_init⟩ := h_c_Clash_init
  obtain ⟨C_c_NotFitting_init, fI_c_NotFitting_init, fd_c_NotFitting_init, E_c_NotFitting_init, G_c_NotFitting_init⟩ := h_c_NotFitting_init
  obtain ⟨C_c_NotShown_init, fI_c_NotShown_init, fd_c_NotShown_init, E_c_NotShown_init, G_c_NotShown_init⟩ := h_c_NotShown_init
  obtain ⟨C_c_NotABlock_init, fI_c_NotABlock_init, fd_c_NotABlock_init, E_c_NotABlock_init, G_c_NotABlock_init⟩ := h_c_NotABlock_init
  obtain ⟨C_c_OtherFinds_init, fI_c_OtherFinds_init, fd_c_OtherFinds_init, E_c_OtherFinds_init, G_c_OtherFinds_init⟩ := h_c_OtherFinds_init
  obtain ⟨C_c_Same_init, fI_c_Same_init, fd_c_Same_init, E_c_Same_init, G_c_Same_init⟩ := h_c_Same_init
  obtain ⟨C_c_NoTable_init, fI_c_NoTable_init, fd_c_NoTable_init, E_c_NoTable_init, G_c_NoTable_init⟩ := h_c_NoTable_init
  obtain ⟨C_c_Taken_init, fI_c_Taken_init, fd_c_Taken_init, E_c_Taken_init, G_c_Taken_init⟩ := h_c_Taken_init
  obtain ⟨C_c_InUse_init, fI_c_InUse_init, fd_c_InUse_init, E_c_InUse_init, G_c_InUse_init⟩ := h_c_InUse_init
  obtain ⟨C_c_NoFinds_init, fI_c_NoFinds_init, fd_c_NoFinds_init, E_c_NoFinds_init, G_c_NoFinds_init⟩ := h_c_NoFinds_init
  obtain ⟨C_c_UnknownName_init, fI_c_UnknownName_init, fd_c_UnknownName_init, E_c_UnknownName_init, G_c_UnknownName_init⟩ := h_c_UnknownName_init
  obtain ⟨C_c_UnknownFind_init, fI_c_UnknownFind_init, fd_c_UnknownFind_init, E_c_UnknownFind_init, G_c_UnknownFind_init⟩ := h_c_UnknownFind_init
  obtain ⟨C_c_UnknownNode_init, fI_c_UnknownNode_init, fd_c_UnknownNode_init, E_c_UnknownNode_init, G_c_UnknownNode_init⟩ := h_c_UnknownNode_init
  obtain ⟨C_c_UnknownKept_init, fI_c_UnknownKept_init, fd_c_UnknownKept_init, E_c_UnknownKept_init, G_c_UnknownKept_init⟩ := h_c_UnknownKept_init
  obtain ⟨C_c_NothingLeft_init, fI_c_NothingLeft_init, fd_c_NothingLeft_init, E_c_NothingLeft_init, G_c_NothingLeft_init⟩ := h_c_NothingLeft_init
  refine ⟨f, fd, ?_, mg1, F.kp, bd, F⟩
  refine F.ok sc_l_by_place (fun vs H Q E h => ?_) (fun cdv A outer s H vs Q E hr h => ?_)
  · obtain ⟨x, y, z, dx, dy, dz, rfl, _⟩ := h
    rfl
  · obtain ⟨x, y, z, dx, dy, dz, rfl, rx, ry, rz, lx, ly, lz, q⟩ := h
    refine ⟨_, (pss_one (ps_ret (pe_lst (pa_cons (pe_newV E_c_InvalidName_init.g E_c_InvalidName_init.ini E_c_InvalidName_init.tI G_c_InvalidName_init (hr.mono (by decide)) E_c_InvalidName_init.b (by rfl) E_c_InvalidName_init.m (pa_cons (pv 0) pa_nil)) (pa_cons (pe_newV E_c_InvalidLot_init.g E_c_InvalidLot_init.ini E_c_InvalidLot_init.tI G_c_InvalidLot_init (hr.mono (by decide)) E_c_InvalidLot_init.b (by rfl) E_c_InvalidLot_init.m (pa_cons (pv 0) pa_nil)) (pa_cons (pe_newV E_c_InvalidFind_init.g E_c_InvalidFind_init.ini E_c_InvalidFind_init.tI G_c_InvalidFind_init (hr.mono (by decide)) E_c_InvalidFind_init.b (by rfl) E_c_InvalidFind_init.m (pa_cons (pv 0) pa_nil)) (pa_cons (pe_newV E_c_InvalidWord_init.g E_c_InvalidWord_init.ini E_c_InvalidWord_init.tI G_c_InvalidWord_init (hr.mono (by decide)) E_c_InvalidWord_init.b (by rfl) E_c_InvalidWord_init.m (pa_cons (pv 0) pa_nil)) (pa_cons (pe_newV E_c_InvalidFact_init.g E_c_InvalidFact_init.ini E_c_InvalidFact_init.tI G_c_InvalidFact_init (hr.mono (by decide)) E_c_InvalidFact_init.b (by rfl) E_c_InvalidFact_init.m (pa_cons (pv 0) pa_nil)) (pa_cons (pe_newV E_c_InvalidOrder_init.g E_c_InvalidOrder_init.ini E_c_InvalidOrder_init.tI G_c_InvalidOrder_init (hr.mono (by decide)) E_c_InvalidOrder_init.b (by rfl) E_c_InvalidOrder_init.m (pa_cons (pv 0) pa_nil)) (pa_cons (pe_newV E_c_InvalidKind_init.g E_c_InvalidKind_init.ini E_c_InvalidKind_init.tI G_c_InvalidKind_init (hr.mono (by decide)) E_c_InvalidKind_init.b (by rfl) E_c_InvalidKind_init.m (pa_cons (pv 0) pa_nil)) (pa_cons (pe_newV E_c_InvalidPair_init.g E_c_InvalidPair_init.ini E_c_InvalidPair_init.tI G_c_InvalidPair_init (hr.mono (by decide)) E_c_InvalidPair_init.b (by rfl) E_c_InvalidPair_init.m (pa_cons (pv 0) pa_nil)) (pa_cons (pe_newV E_c_InvalidDeed_init.g E_c_InvalidDeed_init.ini E_c_InvalidDeed_init.tI G_c_InvalidDeed_init (hr.mono (by decide)) E_c_InvalidDeed_init.b (by rfl) E_c_InvalidDeed_init.m (pa_cons (pv 0) pa_nil)) (pa_cons (pe_newV E_c_InvalidText_init.g E_c_InvalidText_init.ini E_c_InvalidText_init.tI G_c_InvalidText_init (hr.mono (by decide)) E_c_InvalidText_init.b (by rfl) E_c_InvalidText_init.m (pa_cons (pv 0) (pa_cons (pv 1) pa_nil))) (pa_cons (pe_newV E_c_InvalidNumber_init.g E_c_InvalidNumber_init.ini E_c_InvalidNumber_init.tI G_c_InvalidNumber_init (hr.mono (by decide)) E_c_InvalidNumber_init.b (by rfl) E_c_InvalidNumber_init.m (pa_cons (pv 0) pa_nil)) (pa_cons (pe_newV0 E_c_InvalidStatement_init.g E_c_InvalidStatement_init.ini E_c_InvalidStatement_init.tI G_c_InvalidStatement_init (hr.mono (by decide)) E_c_InvalidStatement_init.b (by rfl) E_c_InvalidStatement_init.m) (pa_cons (pe_newV0 E_c_InvalidQuestion_init.g E_c_InvalidQuestion_init.ini E_c_InvalidQuestion_init.tI G_c_InvalidQuestion_init (hr.mono (by decide)) E_c_InvalidQuestion_init.b (by rfl) E_c_InvalidQuestion_init.m) (pa_cons (pe_newV0 E_c_InvalidClaim_init.g E_c_InvalidClaim_init.ini E_c_InvalidClaim_init.tI G_c_InvalidClaim_init (hr.mono (by decide)) E_c_InvalidClaim_init.b (by rfl) E_c_InvalidClaim_init.m) (pa_cons (pe_newV E_c_InvalidTimes_init.g E_c_InvalidTimes_init.ini E_c_InvalidTimes_init.tI G_c_InvalidTimes_init (hr.mono (by decide)) E_c_InvalidTimes_init.b (by rfl) E_c_InvalidTimes_init.m (pa_cons (pv 0) pa_nil)) (pa_cons (pe_newV E_c_InvalidWeights_init.g E_c_InvalidWeights_init.ini E_c_InvalidWeights_init.tI G_c_InvalidWeights_init (hr.mono (by decide)) E_c_InvalidWeights_init.b (by rfl) E_c_InvalidWeights_init.m (pa_cons (pv 0) pa_nil)) (pa_cons (pe_newV E_c_DuplicateName_init.g E_c_DuplicateName_init.ini E_c_DuplicateName_init.tI G_c_DuplicateName_init (hr.mono (by decide)) E_c_DuplicateName_init.b (by rfl) E_c_DuplicateName_init.m (pa_cons (pv 0) pa_nil)) (pa_cons (pe_newV E_c_TooMany_init.g E_c_TooMany_init.ini E_c_TooMany_init.tI G_c_TooMany_init (hr.mono (by decide)) E_c_TooMany_init.b (by rfl) E_c_TooMany_init.m (pa_cons (pv 0) pa_nil)) (pa_cons (pe_newV E_c_TooFew_init.g E_c_TooFew_init.ini E_c_TooFew_init.tI G_c_TooFew_init (hr.mono (by decide)) E_c_TooFew_init.b (by rfl) E_c_TooFew_init.m (pa_cons (pv 0) pa_nil)) (pa_cons (pe_newV E_c_CannotStand_init.g E_c_CannotStand_init.ini E_c_CannotStand_init.tI G_c_CannotStand_init (hr.mono (by decide)) E_c_CannotStand_init.b (by rfl) E_c_CannotStand_init.m (pa_cons (pv 0) (pa_cons (pv 1) (pa_cons (pv 2) pa_nil)))) (pa_cons (pe_newV0 E_c_Standing_init.g E_c_Standing_init.ini E_c_Standing_init.tI G_c_Standing_init (hr.mono (by decide)) E_c_Standing_init.b (by rfl) E_c_Standing_init.m) (pa_cons (pe_newV E_c_Clash_init.g E_c_Clash_init.ini E_c_Clash_init.tI G_c_Clash_init (hr.mono (by decide)) E_c_Clash_init.b (by rfl) E_c_Clash_init.m (pa_cons (pv 0) pa_nil)) (pa_cons (pe_newV0 E_c_NotFitting_init.g E_c_NotFitting_init.ini E_c_NotFitting_init.tI G_c_NotFitting_init (hr.mono (by decide)) E_c_NotFitting_init.b (by rfl) E_c_NotFitting_init.m) (pa_cons (pe_newV0 E_c_NotShown_init.g E_c_NotShown_init.ini E_c_NotShown_init.tI G_c_NotShown_init (hr.mono (by decide)) E_c_NotShown_init.b (by rfl) E_c_NotShown_init.m) (pa_cons (pe_newV E_c_NotABlock_init.g E_c_NotABlock_init.ini E_c_NotABlock_init.tI G_c_NotABlock_init (hr.mono (by decide)) E_c_NotABlock_init.b (by rfl) E_c_NotABlock_init.m (pa_cons (pv 0) pa_nil)) (pa_cons (pe_newV0 E_c_OtherFinds_init.g E_c_OtherFinds_init.ini E_c_OtherFinds_init.tI G_c_OtherFinds_init (hr.mono (by decide)) E_c_OtherFinds_init.b (by rfl) E_c_OtherFinds_init.m) (pa_cons (pe_newV E_c_Same_init.g E_c_Same_init.ini E_c_Same_init.tI G_c_Same_init (hr.mono (by decide)) E_c_Same_init.b (by rfl) E_c_Same_init.m (pa_cons (pv 0) pa_nil)) (pa_cons (pe_newV E_c_NoTable_init.g E_c_NoTable_init.ini E_c_NoTable_init.tI G_c_NoTable_init (hr.mono (by decide)) E_c_NoTable_init.b (by rfl) E_c_NoTable_init.m (pa_cons (pv 0) (pa_cons (pv 1) pa_nil))) (pa_cons (pe_newV E_c_Taken_init.g E_c_Taken_init.ini E_c_Taken_init.tI G_c_Taken_init (hr.mono (by decide)) E_c_Taken_init.b (by rfl) E_c_Taken_init.m (pa_cons (pv 0) pa_nil)) (pa_cons (pe_newV E_c_InUse_init.g E_c_InUse_init.ini E_c_InUse_init.tI G_c_InUse_init (hr.mono (by decide)) E_c_InUse_init.b (by rfl) E_c_InUse_init.m (pa_cons (pv 0) pa_nil)) (pa_cons (pe_newV0 E_c_NoFinds_init.g E_c_NoFinds_init.ini E_c_NoFinds_init.tI G_c_NoFinds_init (hr.mono (by decide)) E_c_NoFinds_init.b (by rfl) E_c_NoFinds_init.m) (pa_cons (pe_newV E_c_UnknownName_init.g E_c_UnknownName_init.ini E_c_UnknownName_init.tI G_c_UnknownName_init (hr.mono (by decide)) E_c_UnknownName_init.b (by rfl) E_c_UnknownName_init.m (pa_cons (pv 0) pa_nil)) (pa_cons (pe_newV E_c_UnknownFind_init.g E_c_UnknownFind_init.ini E_c_UnknownFind_init.tI G_c_UnknownFind_init (hr.mono (by decide)) E_c_UnknownFind_init.b (by rfl) E_c_UnknownFind_init.m (pa_cons (pv 0) pa_nil)) (pa_cons (pe_newV E_c_UnknownNode_init.g E_c_UnknownNode_init.ini E_c_UnknownNode_init.tI G_c_UnknownNode_init (hr.mono (by decide)) E_c_UnknownNode_init.b (by rfl) E_c_UnknownNode_init.m (pa_cons (pv 0) pa_nil)) (pa_cons (pe_newV E_c_UnknownKept_init.g E_c_UnknownKept_init.ini E_c_UnknownKept_init.tI G_c_UnknownKept_init (hr.mono (by decide)) E_c_UnknownKept_init.b (by rfl) E_c_UnknownKept_init.m (pa_cons (pv 0) pa_nil)) (pa_cons (pe_newV0 E_c_NothingLeft_init.g E_c_NothingLeft_init.ini E_c_NothingLeft_init.tI G_c_NothingLeft_init (hr.mono (by decide)) E_c_NothingLeft_init.b (by rfl) E_c_NothingLeft_init.m) pa_nil))))))))))))))))))))))))))))))))))))))), ?_⟩
    have acc := ExAll.nil (K := K) (mg := mg) (H := H) (dx := dx) (dy := dy) (dz := dz)
    refine ⟨_, rfl, ?_⟩
    refine newV_of (ds := [dx]) (fl := ["value"]) E_c_InvalidName_init (by decide +kernel) (by decide +kernel) (.cons rx .nil) (fun d hd => by simp only [List.mem_cons, List.not_mem_nil, or_false] at hd; rw [hd]; exact lx) rfl (by decide) fun v0 H0 s e => ?_
    replace acc : ExAll K mg H0 dx dy dz [.ref v0] [Str.ofString "InvalidName"] := acc.snoc s e (by rw [show (fldsN (Str.ofString "InvalidName")).length = 1 by decide +kernel]; rfl)
    have rx := rx.to s
    have ry := ry.to s
    have rz := rz.to s
    have t0 := s
    clear s e
    refine ⟨_, rfl, ?_⟩
    refine newV_of (ds := [dx]) (fl := ["at"]) E_c_InvalidLot_init (by decide +kernel) (by decide +kernel) (.cons rx .nil) (fun d hd => by simp only [List.mem_cons, List.not_mem_nil, or_false] at hd; rw [hd]; exact lx) rfl (by decide) fun v1 H1 s e => ?_
    replace acc : ExAll K mg H1 dx dy dz [.ref v0, .ref v1] [Str.ofString "InvalidName", Str.ofString "InvalidLot"] := acc.snoc s e (by rw [show (fldsN (Str.ofString "InvalidLot")).length = 1 by decide +kernel]; rfl)
    have rx := rx.to s
    have ry := ry.to s
    have rz := rz.to s
    have t1 := t0.trans s
    clear s e t0
    refine ⟨_, rfl, ?_⟩
    refine newV_of (ds := [dx]) (fl := ["at"]) E_c_InvalidFind_init (by decide +kernel) (by decide +kernel) (.cons rx .nil) (fun d hd => by simp only [List.mem_cons, List.not_mem_nil, or_false] at hd; rw [hd]; exact lx) rfl (by decide) fun v2 H2 s e => ?_
    replace acc : ExAll K mg H2 dx dy dz [.ref v0, .ref v1, .ref v2] [Str.ofString "InvalidName", Str.ofString "InvalidLot", Str.ofString "InvalidFind"] := acc.snoc s e (by rw [show (fldsN (Str.ofString "InvalidFind")).length = 1 by decide +kernel]; rfl)
    have rx := rx.to s
    have ry := ry.to s
    have rz := rz.to s
    have t2 := t1.trans s
    clear s e t1
    refine ⟨_, rfl, ?_⟩
    refine newV_of (ds := [dx]) (fl := ["at"]) E_c_InvalidWord_init (by decide +kernel) (by decide +kernel) (.cons rx .nil) (fun d hd => by simp only [List.mem_cons, List.not_mem_nil, or_false] at hd; rw [hd]; exact lx) rfl (by decide) fun v3 H3 s e => ?_
    replace acc : ExAll K mg H3 dx dy dz [.ref v0, .ref v1, .ref v2, .ref v3] [Str.ofString "InvalidName", Str.ofString "InvalidLot", Str.ofString "InvalidFind", Str.ofString "InvalidWord"] := acc.snoc s e (by rw [show (fldsN (Str.ofString "InvalidWord")).length = 1 by decide +kernel]; rfl)
    have rx := rx.to s
    have ry := ry.to s
    have rz := rz.to s
    have t3 := t2.trans s
    clear s e t2
    refine ⟨_, rfl, ?_⟩
    refine newV_of (ds := [dx]) (fl := ["at"]) E_c_InvalidFact_init (by decide +kernel) (by decide +kernel) (.cons rx .nil) (fun d hd => by simp only [List.mem_cons, List.not_mem_nil, or_false] at hd; rw [hd]; exact lx) rfl (by decide) fun v4 H4 s e => ?_
    replace acc : ExAll K mg H4 dx dy dz [.ref v0, .ref v1, .ref v2, .ref v3, .ref v4] [Str.ofString "InvalidName", Str.ofString "InvalidLot", Str.ofString "InvalidFind", Str.ofString "InvalidWord", Str.ofString "InvalidFact"] := acc.snoc s e (by rw [show (fldsN (Str.ofString "InvalidFact")).length = 1 by decide +kernel]; rfl)
    have rx := rx.to s
    have ry := ry.to s
    have rz := rz.to s
    have t4 := t3.trans s
    clear s e t3
    refine ⟨_, rfl, ?_⟩
    refine newV_of (ds := [dx]) (fl := ["at"]) E_c_InvalidOrder_init (by decide +kernel) (by decide +kernel) (.cons rx .nil) (fun d hd => by simp only [List.mem_cons, List.not_mem_nil, or_false] at hd; rw [hd]; exact lx) rfl (by decide) fun v5 H5 s e => ?_
    replace acc : ExAll K mg H5 dx dy dz [.ref v0, .ref v1, .ref v2, .ref v3, .ref v4, .ref v5] [Str.ofString "InvalidName", Str.ofString "InvalidLot", Str.ofString "InvalidFind", Str.ofString "InvalidWord", Str.ofString "InvalidFact", Str.ofString "InvalidOrder"] := acc.snoc s e (by rw [show (fldsN (Str.ofString "InvalidOrder")).length = 1 by decide +kernel]; rfl)
    have rx := rx.to s
    have ry := ry.to s
    have rz := rz.to s
    have t5 := t4.trans s
    clear s e t4
    refine ⟨_, rfl, ?_⟩
    refine newV_of (ds := [dx]) (fl := ["at"]) E_c_InvalidKind_init (by decide +kernel) (by decide +kernel) (.cons rx .nil) (fun d hd => by simp only [List.mem_cons, List.not_mem_nil, or_false] at hd; rw [hd]; exact lx) rfl (by decide) fun v6 H6 s e => ?_
    replace acc : ExAll K mg H6 dx dy dz [.ref v0, .ref v1, .ref v2, .ref v3, .ref v4, .ref v5, .ref v6] [Str.ofString "InvalidName", Str.ofString "InvalidLot", Str.ofString "InvalidFind", Str.ofString "InvalidWord", Str.ofString "InvalidFact", Str.ofString "InvalidOrder", Str.ofString "InvalidKind"] := acc.snoc s e (by rw [show (fldsN (Str.ofString "InvalidKind")).length = 1 by decide +kernel]; rfl)
    have rx := rx.to s
    have ry := ry.to s
    have rz := rz.to s
    have t6 := t5.trans s
    clear s e t5
    refine ⟨_, rfl, ?_⟩
    refine newV_of (ds := [dx]) (fl := ["at"]) E_c_InvalidPair_init (by decide +kernel) (by decide +kernel) (.cons rx .nil) (fun d hd => by simp only [List.mem_cons, List.not_mem_nil, or_false] at hd; rw [hd]; exact lx) rfl (by decide) fun v7 H7 s e => ?_
    replace acc : ExAll K mg H7 dx dy dz [.ref v0, .ref v1, .ref v2, .ref v3, .ref v4, .ref v5, .ref v6, .ref v7] [Str.ofString "InvalidName", Str.ofString "InvalidLot", Str.ofString "InvalidFind", Str.ofString "InvalidWord", Str.ofString "InvalidFact", Str.ofString "InvalidOrder", Str.ofString "InvalidKind", Str.ofString "InvalidPair"] := acc.snoc s e (by rw [show (fldsN (Str.ofString "InvalidPair")).length = 1 by decide +kernel]; rfl)
    have rx := rx.to s
    have ry := ry.to s
    have rz := rz.to s
    have t7 := t6.trans s
    clear s e t6
    refine ⟨_, rfl, ?_⟩
    refine newV_of (ds := [dx]) (fl := ["at"]) E_c_InvalidDeed_init (by decide +kernel) (by decide +kernel) (.cons rx .nil) (fun d hd => by simp only [List.mem_cons, List.not_mem_nil, or_false] at hd; rw [hd]; exact lx) rfl (by decide) fun v8 H8 s e => ?_
    replace acc : ExAll K mg H8 dx dy dz [.ref v0, .ref v1, .ref v2, .ref v3, .ref v4, .ref v5, .ref v6, .ref v7, .ref v8] [Str.ofString "InvalidName", Str.ofString "InvalidLot", Str.ofString "InvalidFind", Str.ofString "InvalidWord", Str.ofString "InvalidFact", Str.ofString "InvalidOrder", Str.ofString "InvalidKind", Str.ofString "InvalidPair", Str.ofString "InvalidDeed"] := acc.snoc s e (by rw [show (fldsN (Str.ofString "InvalidDeed")).length = 1 by decide +kernel]; rfl)
    have rx := rx.to s
    have ry := ry.to s
    have rz := rz.to s
    have t8 := t7.trans s
    clear s e t7
    refine ⟨_, rfl, _, rfl, ?_⟩
    refine newV_of (ds := [dx, dy]) (fl := ["line", "why"]) E_c_InvalidText_init (by decide +kernel) (by decide +kernel) (.cons rx (.cons ry .nil)) (fun d hd => by simp only [List.mem_cons, List.not_mem_nil, or_false] at hd; rcases hd with e | e <;> rw [e] <;> assumption) rfl (by decide) fun v9 H9 s e => ?_
    replace acc : ExAll K mg H9 dx dy dz [.ref v0, .ref v1, .ref v2, .ref v3, .ref v4, .ref v5, .ref v6, .ref v7, .ref v8, .ref v9] [Str.ofString "InvalidName", Str.ofString "InvalidLot", Str.ofString "InvalidFind", Str.ofString "InvalidWord", Str.ofString "InvalidFact", Str.ofString "InvalidOrder", Str.ofString "InvalidKind", Str.ofString "InvalidPair", Str.ofString "InvalidDeed", Str.ofString "InvalidText"] := acc.snoc s e (by rw [show (fldsN (Str.ofString "InvalidText")).length = 2 by decide +kernel]; rfl)
    have rx := rx.to s
    have ry := ry.to s
    have rz := rz.to s
    have t9 := t8.trans s
    clear s e t8
    refine ⟨_, rfl, ?_⟩
    refine newV_of (ds := [dx]) (fl := ["value"]) E_c_InvalidNumber_init (by decide +kernel) (by decide +kernel) (.cons rx .nil) (fun d hd => by simp only [List.mem_cons, List.not_mem_nil, or_false] at hd; rw [hd]; exact lx) rfl (by decide) fun v10 H10 s e => ?_
    replace acc : ExAll K mg H10 dx dy dz [.ref v0, .ref v1, .ref v2, .ref v3, .ref v4, .ref v5, .ref v6, .ref v7, .ref v8, .ref v9, .ref v10] [Str.ofString "InvalidName", Str.ofString "InvalidLot", Str.ofString "InvalidFind", Str.ofString "InvalidWord", Str.ofString "InvalidFact", Str.ofString "InvalidOrder", Str.ofString "InvalidKind", Str.ofString "InvalidPair", Str.ofString "InvalidDeed", Str.ofString "InvalidText", Str.ofString "InvalidNumber"] := acc.snoc s e (by rw [show (fldsN (Str.ofString "InvalidNumber")).length = 1 by decide +kernel]; rfl)
    have rx := rx.to s
    have ry := ry.to s
    have rz := rz.to s
    have t10 := t9.trans s
    clear s e t9
    refine newV_of (ds := []) (fl := []) E_c_InvalidStatement_init (by decide +kernel) (by decide +kernel) .nil (fun d hd => (List.not_mem_nil hd).elim) rfl (by decide) fun v11 H11 s e => ?_
    replace acc : ExAll K mg H11 dx dy dz [.ref v0, .ref v1, .ref v2, .ref v3, .ref v4, .ref v5, .ref v6, .ref v7, .ref v8, .ref v9, .ref v10, .ref v11] [Str.ofString "InvalidName", Str.ofString "InvalidLot", Str.ofString "InvalidFind", Str.ofString "InvalidWord", Str.ofString "InvalidFact", Str.ofString "InvalidOrder", Str.ofString "InvalidKind", Str.ofString "InvalidPair", Str.ofString "InvalidDeed", Str.ofString "InvalidText", Str.ofString "InvalidNumber", Str.ofString "InvalidStatement"] := acc.snoc s e (by rw [show (fldsN (Str.ofString "InvalidStatement")).length = 0 by decide +kernel]; rfl)
    have rx := rx.to s
    have ry := ry.to s
    have rz := rz.to s
    have t11 := t10.trans s
    clear s e t10
    refine newV_of (ds := []) (fl := []) E_c_InvalidQuestion_init (by decide +kernel) (by decide +kernel) .nil (fun d hd => (List.not_mem_nil hd).elim) rfl (by decide) fun v12 H12 s e => ?_
    replace acc : ExAll K mg H12 dx dy dz [.ref v0, .ref v1, .ref v2, .ref v3, .ref v4, .ref v5, .ref v6, .ref v7, .ref v8, .ref v9, .ref v10, .ref v11, .ref v12] [Str.ofString "InvalidName", Str.ofString "InvalidLot", Str.ofString "InvalidFind", Str.ofString "InvalidWord", Str.ofString "InvalidFact", Str.ofString "InvalidOrder", Str.ofString "InvalidKind", Str.ofString "InvalidPair", Str.ofString "InvalidDeed", Str.ofString "InvalidText", Str.ofString "InvalidNumber", Str.ofString "InvalidStatement", Str.ofString "InvalidQuestion"] := acc.snoc s e (by rw [show (fldsN (Str.ofString "InvalidQuestion")).length = 0 by decide +kernel]; rfl)
    have rx := rx.to s
    have ry := ry.to s
    have rz := rz.to s
    have t12 := t11.trans s
    clear s e t11
    refine newV_of (ds := []) (fl := []) E_c_InvalidClaim_init (by decide +kernel) (by decide +kernel) .nil (fun d hd => (List.not_mem_nil hd).elim) rfl (by decide) fun v13 H13 s e => ?_
    replace acc : ExAll K mg H13 dx dy dz [.ref v0, .ref v1, .ref v2, .ref v3, .ref v4, .ref v5, .ref v6, .ref v7, .ref v8, .ref v9, .ref v10, .ref v11, .ref v12, .ref v13] [Str.ofString "InvalidName", Str.ofString "InvalidLot", Str.ofString "InvalidFind", Str.ofString "InvalidWord", Str.ofString "InvalidFact", Str.ofString "InvalidOrder", Str.ofString "InvalidKind", Str.ofString "InvalidPair", Str.ofString "InvalidDeed", Str.ofString "InvalidText", Str.ofString "InvalidNumber", Str.ofString "InvalidStatement", Str.ofString "InvalidQuestion", Str.ofString "InvalidClaim"] := acc.snoc s e (by rw [show (fldsN (Str.ofString "InvalidClaim")).length = 0 by decide +kernel]; rfl)
    have rx := rx.to s
    have ry := ry.to s
    have rz := rz.to s
    have t13 := t12.trans s
    clear s e t12
    refine ⟨_, rfl, ?_⟩
    refine newV_of (ds := [dx]) (fl := ["name"]) E_c_InvalidTimes_init (by decide +kernel) (by decide +kernel) (.cons rx .nil) (fun d hd => by simp only [List.mem_cons, List.not_mem_nil, or_false] at hd; rw [hd]; exact lx) rfl (by decide) fun v14 H14 s e => ?_
    replace acc : ExAll K mg H14 dx dy dz [.ref v0, .ref v1, .ref v2, .ref v3, .ref v4, .ref v5, .ref v6, .ref v7, .ref v8, .ref v9, .ref v10, .ref v11, .ref v12, .ref v13, .ref v14] [Str.ofString "InvalidName", Str.ofString "InvalidLot", Str.ofString "InvalidFind", Str.ofString "InvalidWord", Str.ofString "InvalidFact", Str.ofString "InvalidOrder", Str.ofString "InvalidKind", Str.ofString "InvalidPair", Str.ofString "InvalidDeed", Str.ofString "InvalidText", Str.ofString "InvalidNumber", Str.ofString "InvalidStatement", Str.ofString "InvalidQuestion", Str.ofString "InvalidClaim", Str.ofString "InvalidTimes"] := acc.snoc s e (by rw [show (fldsN (Str.ofString "InvalidTimes")).length = 1 by decide +kernel]; rfl)
    have rx := rx.to s
    have ry := ry.to s
    have rz := rz.to s
    have t14 := t13.trans s
    clear s e t13
    refine ⟨_, rfl, ?_⟩
    refine newV_of (ds := [dx]) (fl := ["name"]) E_c_InvalidWeights_init (by decide +kernel) (by decide +kernel) (.cons rx .nil) (fun d hd => by simp only [List.mem_cons, List.not_mem_nil, or_false] at hd; rw [hd]; exact lx) rfl (by decide) fun v15 H15 s e => ?_
    replace acc : ExAll K mg H15 dx dy dz [.ref v0, .ref v1, .ref v2, .ref v3, .ref v4, .ref v5, .ref v6, .ref v7, .ref v8, .ref v9, .ref v10, .ref v11, .ref v12, .ref v13, .ref v14, .ref v15] [Str.ofString "InvalidName", Str.ofString "InvalidLot", Str.ofString "InvalidFind", Str.ofString "InvalidWord", Str.ofString "InvalidFact", Str.ofString "InvalidOrder", Str.ofString "InvalidKind", Str.ofString "InvalidPair", Str.ofString "InvalidDeed", Str.ofString "InvalidText", Str.ofString "InvalidNumber", Str.ofString "InvalidStatement", Str.ofString "InvalidQuestion", Str.ofString "InvalidClaim", Str.ofString "InvalidTimes", Str.ofString "InvalidWeights"] := acc.snoc s e (by rw [show (fldsN (Str.ofString "InvalidWeights")).length = 1 by decide +kernel]; rfl)
    have rx := rx.to s
    have ry := ry.to s
    have rz := rz.to s
    have t15 := t14.trans s
    clear s e t14
    refine ⟨_, rfl, ?_⟩
    refine newV_of (ds := [dx]) (fl := ["name"]) E_c_DuplicateName_init (by decide +kernel) (by decide +kernel) (.cons rx .nil) (fun d hd => by simp only [List.mem_cons, List.not_mem_nil, or_false] at hd; rw [hd]; exact lx) rfl (by decide) fun v16 H16 s e => ?_
    replace acc : ExAll K mg H16 dx dy dz [.ref v0, .ref v1, .ref v2, .ref v3, .ref v4, .ref v5, .ref v6, .ref v7, .ref v8, .ref v9, .ref v10, .ref v11, .ref v12, .ref v13, .ref v14, .ref v15, .ref v16] [Str.ofString "InvalidName", Str.ofString "InvalidLot", Str.ofString "InvalidFind", Str.ofString "InvalidWord", Str.ofString "InvalidFact", Str.ofString "InvalidOrder", Str.ofString "InvalidKind", Str.ofString "InvalidPair", Str.ofString "InvalidDeed", Str.ofString "InvalidText", Str.ofString "InvalidNumber", Str.ofString "InvalidStatement", Str.ofString "InvalidQuestion", Str.ofString "InvalidClaim", Str.ofString "InvalidTimes", Str.ofString "InvalidWeights", Str.ofString "DuplicateName"] := acc.snoc s e (by rw [show (fldsN (Str.ofString "DuplicateName")).length = 1 by decide +kernel]; rfl)
    have rx := rx.to s
    have ry := ry.to s
    have rz := rz.to s
    have t16 := t15.trans s
    clear s e t15
    refine ⟨_, rfl, ?_⟩
    refine newV_of (ds := [dx]) (fl := ["most"]) E_c_TooMany_init (by decide +kernel) (by decide +kernel) (.cons rx .nil) (fun d hd => by simp only [List.mem_cons, List.not_mem_nil, or_false] at hd; rw [hd]; exact lx) rfl (by decide) fun v17 H17 s e => ?_
    replace acc : ExAll K mg H17 dx dy dz [.ref v0, .ref v1, .ref v2, .ref v3, .ref v4, .ref v5, .ref v6, .ref v7, .ref v8, .ref v9, .ref v10, .ref v11, .ref v12, .ref v13, .ref v14, .ref v15, .ref v16, .ref v17] [Str.ofString "InvalidName", Str.ofString "InvalidLot", Str.ofString "InvalidFind", Str.ofString "InvalidWord", Str.ofString "InvalidFact", Str.ofString "InvalidOrder", Str.ofString "InvalidKind", Str.ofString "InvalidPair", Str.ofString "InvalidDeed", Str.ofString "InvalidText", Str.ofString "InvalidNumber", Str.ofString "InvalidStatement", Str.ofString "InvalidQuestion", Str.ofString "InvalidClaim", Str.ofString "InvalidTimes", Str.ofString "InvalidWeights", Str.ofString "DuplicateName", Str.ofString "TooMany"] := acc.snoc s e (by rw [show (fldsN (Str.ofString "TooMany")).length = 1 by decide +kernel]; rfl)
    have rx := rx.to s
    have ry := ry.to s
    have rz := rz.to s
    have t17 := t16.trans s
    clear s e t16
    refine ⟨_, rfl, ?_⟩
    refine newV_of (ds := [dx]) (fl := ["least"]) E_c_TooFew_init (by decide +kernel) (by decide +kernel) (.cons rx .nil) (fun d hd => by simp only [List.mem_cons, List.not_mem_nil, or_false] at hd; rw [hd]; exact lx) rfl (by decide) fun v18 H18 s e => ?_
    replace acc : ExAll K mg H18 dx dy dz [.ref v0, .ref v1, .ref v2, .ref v3, .ref v4, .ref v5, .ref v6, .ref v7, .ref v8, .ref v9, .ref v10, .ref v11, .ref v12, .ref v13, .ref v14, .ref v15, .ref v16, .ref v17, .ref v18] [Str.ofString "InvalidName", Str.ofString "InvalidLot", Str.ofString "InvalidFind", Str.ofString "InvalidWord", Str.ofString "InvalidFact", Str.ofString "InvalidOrder", Str.ofString "InvalidKind", Str.ofString "InvalidPair", Str.ofString "InvalidDeed", Str.ofString "InvalidText", Str.ofString "InvalidNumber", Str.ofString "InvalidStatement", Str.ofString "InvalidQuestion", Str.ofString "InvalidClaim", Str.ofString "InvalidTimes", Str.ofString "InvalidWeights", Str.ofString "DuplicateName", Str.ofString "TooMany", Str.ofString "TooFew"] := acc.snoc s e (by rw [show (fldsN (Str.ofString "TooFew")).length = 1 by decide +kernel]; rfl)
    have rx := rx.to s
    have ry := ry.to s
    have rz := rz.to s
    have t18 := t17.trans s
    clear s e t17
    refine ⟨_, rfl, _, rfl, _, rfl, ?_⟩
    refine newV_of (ds := [dx, dy, dz]) (fl := ["one", "two", "three"]) E_c_CannotStand_init (by decide +kernel) (by decide +kernel) (.cons rx (.cons ry (.cons rz .nil))) (fun d hd => by simp only [List.mem_cons, List.not_mem_nil, or_false] at hd; rcases hd with e | e | e <;> rw [e] <;> assumption) rfl (by decide) fun v19 H19 s e => ?_
    replace acc : ExAll K mg H19 dx dy dz [.ref v0, .ref v1, .ref v2, .ref v3, .ref v4, .ref v5, .ref v6, .ref v7, .ref v8, .ref v9, .ref v10, .ref v11, .ref v12, .ref v13, .ref v14, .ref v15, .ref v16, .ref v17, .ref v18, .ref v19] [Str.ofString "InvalidName", Str.ofString "InvalidLot", Str.ofString "InvalidFind", Str.ofString "InvalidWord", Str.ofString "InvalidFact", Str.ofString "InvalidOrder", Str.ofString "InvalidKind", Str.ofString "InvalidPair", Str.ofString "InvalidDeed", Str.ofString "InvalidText", Str.ofString "InvalidNumber", Str.ofString "InvalidStatement", Str.ofString "InvalidQuestion", Str.ofString "InvalidClaim", Str.ofString "InvalidTimes", Str.ofString "InvalidWeights", Str.ofString "DuplicateName", Str.ofString "TooMany", Str.ofString "TooFew", Str.ofString "CannotStand"] := acc.snoc s e (by rw [show (fldsN (Str.ofString "CannotStand")).length = 3 by decide +kernel]; rfl)
    have rx := rx.to s
    have ry := ry.to s
    have rz := rz.to s
    have t19 := t18.trans s
    clear s e t18
    refine newV_of (ds := []) (fl := []) E_c_Standing_init (by decide +kernel) (by decide +kernel) .nil (fun d hd => (List.not_mem_nil hd).elim) rfl (by decide) fun v20 H20 s e => ?_
    replace acc : ExAll K mg H20 dx dy dz [.ref v0, .ref v1, .ref v2, .ref v3, .ref v4, .ref v5, .ref v6, .ref v7, .ref v8, .ref v9, .ref v10, .ref v11, .ref v12, .ref v13, .ref v14, .ref v15, .ref v16, .ref v17, .ref v18, .ref v19, .ref v20] [Str.ofString "InvalidName", Str.ofString "InvalidLot", Str.ofString "InvalidFind", Str.ofString "InvalidWord", Str.ofString "InvalidFact", Str.ofString "InvalidOrder", Str.ofString "InvalidKind", Str.ofString "InvalidPair", Str.ofString "InvalidDeed", Str.ofString "InvalidText", Str.ofString "InvalidNumber", Str.ofString "InvalidStatement", Str.ofString "InvalidQuestion", Str.ofString "InvalidClaim", Str.ofString "InvalidTimes", Str.ofString "InvalidWeights", Str.ofString "DuplicateName", Str.ofString "TooMany", Str.ofString "TooFew", Str.ofString "CannotStand", Str.ofString "Standing"] := acc.snoc s e (by rw [show (fldsN (Str.ofString "Standing")).length = 0 by decide +kernel]; rfl)
    have rx := rx.to s
    have ry := ry.to s
    have rz := rz.to s
    have t20 := t19.trans s
    clear s e t19
    refine ⟨_, rfl, ?_⟩
    refine newV_of (ds := [dx]) (fl := ["marks"]) E_c_Clash_init (by decide +kernel) (by decide +kernel) (.cons rx .nil) (fun d hd => by simp only [List.mem_cons, List.not_mem_nil, or_false] at hd; rw [hd]; exact lx) rfl (by decide) fun v21 H21 s e => ?_
    replace acc : ExAll K mg H21 dx dy dz [.ref v0, .ref v1, .ref v2, .ref v3, .ref v4, .ref v5, .ref v6, .ref v7, .ref v8, .ref v9, .ref v10, .ref v11, .ref v12, .ref v13, .ref v14, .ref v15, .ref v16, .ref v17, .ref v18, .ref v19, .ref v20, .ref v21] [Str.ofString "InvalidName", Str.ofString "InvalidLot", Str.ofString "InvalidFind", Str.ofString "InvalidWord", Str.ofString "InvalidFact", Str.ofString "InvalidOrder", Str.ofString "InvalidKind", Str.ofString "InvalidPair", Str.ofString "InvalidDeed", Str.ofString "InvalidText", Str.ofString "InvalidNumber", Str.ofString "InvalidStatement", Str.ofString "InvalidQuestion", Str.ofString "InvalidClaim", Str.ofString "InvalidTimes", Str.ofString "InvalidWeights", Str.ofString "DuplicateName", Str.ofString "TooMany", Str.ofString "TooFew", Str.ofString "CannotStand", Str.ofString "Standing", Str.ofString "Clash"] := acc.snoc s e (by rw [show (fldsN (Str.ofString "Clash")).length = 1 by decide +kernel]; rfl)
    have rx := rx.to s
    have ry := ry.to s
    have rz := rz.to s
    have t21 := t20.trans s
    clear s e t20
    refine newV_of (ds := []) (fl := []) E_c_NotFitting_init (by decide +kernel) (by decide +kernel) .nil (fun d hd => (List.not_mem_nil hd).elim) rfl (by decide) fun v22 H22 s e => ?_
    replace acc : ExAll K mg H22 dx dy dz [.ref v0, .ref v1, .ref v2, .ref v3, .ref v4, .ref v5, .ref v6, .ref v7, .ref v8, .ref v9, .ref v10, .ref v11, .ref v12, .ref v13, .ref v14, .ref v15, .ref v16, .ref v17, .ref v18, .ref v19, .ref v20, .ref v21, .ref v22] [Str.ofString "InvalidName", Str.ofString "InvalidLot", Str.ofString "InvalidFind", Str.ofString "InvalidWord", Str.ofString "InvalidFact", Str.ofString "InvalidOrder", Str.ofString "InvalidKind", Str.ofString "InvalidPair", Str.ofString "InvalidDeed", Str.ofString "InvalidText", Str.ofString "InvalidNumber", Str.ofString "InvalidStatement", Str.ofString "InvalidQuestion", Str.ofString "InvalidClaim", Str.ofString "InvalidTimes", Str.ofString "InvalidWeights", Str.ofString "DuplicateName", Str.ofString "TooMany", Str.ofString "TooFew", Str.ofString "CannotStand", Str.ofString "Standing", Str.ofString "Clash", Str.ofString "NotFitting"] := acc.snoc s e (by rw [show (fldsN (Str.ofString "NotFitting")).length = 0 by decide +kernel]; rfl)
    have rx := rx.to s
    have ry := ry.to s
    have rz := rz.to s
    have t22 := t21.trans s
    clear s e t21
    refine newV_of (ds := []) (fl := []) E_c_NotShown_init (by decide +kernel) (by decide +kernel) .nil (fun d hd => (List.not_mem_nil hd).elim) rfl (by decide) fun v23 H23 s e => ?_
    replace acc : ExAll K mg H23 dx dy dz [.ref v0, .ref v1, .ref v2, .ref v3, .ref v4, .ref v5, .ref v6, .ref v7, .ref v8, .ref v9, .ref v10, .ref v11, .ref v12, .ref v13, .ref v14, .ref v15, .ref v16, .ref v17, .ref v18, .ref v19, .ref v20, .ref v21, .ref v22, .ref v23] [Str.ofString "InvalidName", Str.ofString "InvalidLot", Str.ofString "InvalidFind", Str.ofString "InvalidWord", Str.ofString "InvalidFact", Str.ofString "InvalidOrder", Str.ofString "InvalidKind", Str.ofString "InvalidPair", Str.ofString "InvalidDeed", Str.ofString "InvalidText", Str.ofString "InvalidNumber", Str.ofString "InvalidStatement", Str.ofString "InvalidQuestion", Str.ofString "InvalidClaim", Str.ofString "InvalidTimes", Str.ofString "InvalidWeights", Str.ofString "DuplicateName", Str.ofString "TooMany", Str.ofString "TooFew", Str.ofString "CannotStand", Str.ofString "Standing", Str.ofString "Clash", Str.ofString "NotFitting", Str.ofString "NotShown"] := acc.snoc s e (by rw [show (fldsN (Str.ofString "NotShown")).length = 0 by decide +kernel]; rfl)
    have rx := rx.to s
    have ry := ry.to s
    have rz := rz.to s
    have t23 := t22.trans s
    clear s e t22
    refine ⟨_, rfl, ?_⟩
    refine newV_of (ds := [dx]) (fl := ["lot"]) E_c_NotABlock_init (by decide +kernel) (by decide +kernel) (.cons rx .nil) (fun d hd => by simp only [List.mem_cons, List.not_mem_nil, or_false] at hd; rw [hd]; exact lx) rfl (by decide) fun v24 H24 s e => ?_
    replace acc : ExAll K mg H24 dx dy dz [.ref v0, .ref v1, .ref v2, .ref v3, .ref v4, .ref v5, .ref v6, .ref v7, .ref v8, .ref v9, .ref v10, .ref v11, .ref v12, .ref v13, .ref v14, .ref v15, .ref v16, .ref v17, .ref v18, .ref v19, .ref v20, .ref v21, .ref v22, .ref v23, .ref v24] [Str.ofString "InvalidName", Str.ofString "InvalidLot", Str.ofString "InvalidFind", Str.ofString "InvalidWord", Str.ofString "InvalidFact", Str.ofString "InvalidOrder", Str.ofString "InvalidKind", Str.ofString "InvalidPair", Str.ofString "InvalidDeed", Str.ofString "InvalidText", Str.ofString "InvalidNumber", Str.ofString "InvalidStatement", Str.ofString "InvalidQuestion", Str.ofString "InvalidClaim", Str.ofString "InvalidTimes", Str.ofString "InvalidWeights", Str.ofString "DuplicateName", Str.ofString "TooMany", Str.ofString "TooFew", Str.ofString "CannotStand", Str.ofString "Standing", Str.ofString "Clash", Str.ofString "NotFitting", Str.ofString "NotShown", Str.ofString "NotABlock"] := acc.snoc s e (by rw [show (fldsN (Str.ofString "NotABlock")).length = 1 by decide +kernel]; rfl)
    have rx := rx.to s
    have ry := ry.to s
    have rz := rz.to s
    have t24 := t23.trans s
    clear s e t23
    refine newV_of (ds := []) (fl := []) E_c_OtherFinds_init (by decide +kernel) (by decide +kernel) .nil (fun d hd => (List.not_mem_nil hd).elim) rfl (by decide) fun v25 H25 s e => ?_
    replace acc : ExAll K mg H25 dx dy dz [.ref v0, .ref v1, .ref v2, .ref v3, .ref v4, .ref v5, .ref v6, .ref v7, .ref v8, .ref v9, .ref v10, .ref v11, .ref v12, .ref v13, .ref v14, .ref v15, .ref v16, .ref v17, .ref v18, .ref v19, .ref v20, .ref v21, .ref v22, .ref v23, .ref v24, .ref v25] [Str.ofString "InvalidName", Str.ofString "InvalidLot", Str.ofString "InvalidFind", Str.ofString "InvalidWord", Str.ofString "InvalidFact", Str.ofString "InvalidOrder", Str.ofString "InvalidKind", Str.ofString "InvalidPair", Str.ofString "InvalidDeed", Str.ofString "InvalidText", Str.ofString "InvalidNumber", Str.ofString "InvalidStatement", Str.ofString "InvalidQuestion", Str.ofString "InvalidClaim", Str.ofString "InvalidTimes", Str.ofString "InvalidWeights", Str.ofString "DuplicateName", Str.ofString "TooMany", Str.ofString "TooFew", Str.ofString "CannotStand", Str.ofString "Standing", Str.ofString "Clash", Str.ofString "NotFitting", Str.ofString "NotShown", Str.ofString "NotABlock", Str.ofString "OtherFinds"] := acc.snoc s e (by rw [show (fldsN (Str.ofString "OtherFinds")).length = 0 by decide +kernel]; rfl)
    have rx := rx.to s
    have ry := ry.to s
    have rz := rz.to s
    have t25 := t24.trans s
    clear s e t24
    refine ⟨_, rfl, ?_⟩
    refine newV_of (ds := [dx]) (fl := ["name"]) E_c_Same_init (by decide +kernel) (by decide +kernel) (.cons rx .nil) (fun d hd => by simp only [List.mem_cons, List.not_mem_nil, or_false] at hd; rw [hd]; exact lx) rfl (by decide) fun v26 H26 s e => ?_
    replace acc : ExAll K mg H26 dx dy dz [.ref v0, .ref v1, .ref v2, .ref v3, .ref v4, .ref v5, .ref v6, .ref v7, .ref v8, .ref v9, .ref v10, .ref v11, .ref v12, .ref v13, .ref v14, .ref v15, .ref v16, .ref v17, .ref v18, .ref v19, .ref v20, .ref v21, .ref v22, .ref v23, .ref v24, .ref v25, .ref v26] [Str.ofString "InvalidName", Str.ofString "InvalidLot", Str.ofString "InvalidFind", Str.ofString "InvalidWord", Str.ofString "InvalidFact", Str.ofString "InvalidOrder", Str.ofString "InvalidKind", Str.ofString "InvalidPair", Str.ofString "InvalidDeed", Str.ofString "InvalidText", Str.ofString "InvalidNumber", Str.ofString "InvalidStatement", Str.ofString "InvalidQuestion", Str.ofString "InvalidClaim", Str.ofString "InvalidTimes", Str.ofString "InvalidWeights", Str.ofString "DuplicateName", Str.ofString "TooMany", Str.ofString "TooFew", Str.ofString "CannotStand", Str.ofString "Standing", Str.ofString "Clash", Str.ofString "NotFitting", Str.ofString "NotShown", Str.ofString "NotABlock", Str.ofString "OtherFinds", Str.ofString "Same"] := acc.snoc s e (by rw [show (fldsN (Str.ofString "Same")).length = 1 by decide +kernel]; rfl)
    have rx := rx.to s
    have ry := ry.to s
    have rz := rz.to s
    have t26 := t25.trans s
    clear s e t25
    refine ⟨_, rfl, _, rfl, ?_⟩
    refine newV_of (ds := [dx, dy]) (fl := ["why", "found"]) E_c_NoTable_init (by decide +kernel) (by decide +kernel) (.cons rx (.cons ry .nil)) (fun d hd => by simp only [List.mem_cons, List.not_mem_nil, or_false] at hd; rcases hd with e | e <;> rw [e] <;> assumption) rfl (by decide) fun v27 H27 s e => ?_
    replace acc : ExAll K mg H27 dx dy dz [.ref v0, .ref v1, .ref v2, .ref v3, .ref v4, .ref v5, .ref v6, .ref v7, .ref v8, .ref v9, .ref v10, .ref v11, .ref v12, .ref v13, .ref v14, .ref v15, .ref v16, .ref v17, .ref v18, .ref v19, .ref v20, .ref v21, .ref v22, .ref v23, .ref v24, .ref v25, .ref v26, .ref v27] [Str.ofString "InvalidName", Str.ofString "InvalidLot", Str.ofString "InvalidFind", Str.ofString "InvalidWord", Str.ofString "InvalidFact", Str.ofString "InvalidOrder", Str.ofString "InvalidKind", Str.ofString "InvalidPair", Str.ofString "InvalidDeed", Str.ofString "InvalidText", Str.ofString "InvalidNumber", Str.ofString "InvalidStatement", Str.ofString "InvalidQuestion", Str.ofString "InvalidClaim", Str.ofString "InvalidTimes", Str.ofString "InvalidWeights", Str.ofString "DuplicateName", Str.ofString "TooMany", Str.ofString "TooFew", Str.ofString "CannotStand", Str.ofString "Standing", Str.ofString "Clash", Str.ofString "NotFitting", Str.ofString "NotShown", Str.ofString "NotABlock", Str.ofString "OtherFinds", Str.ofString "Same", Str.ofString "NoTable"] := acc.snoc s e (by rw [show (fldsN (Str.ofString "NoTable")).length = 2 by decide +kernel]; rfl)
    have rx := rx.to s
    have ry := ry.to s
    have rz := rz.to s
    have t27 := t26.trans s
    clear s e t26
    refine ⟨_, rfl, ?_⟩
    refine newV_of (ds := [dx]) (fl := ["name"]) E_c_Taken_init (by decide +kernel) (by decide +kernel) (.cons rx .nil) (fun d hd => by simp only [List.mem_cons, List.not_mem_nil, or_false] at hd; rw [hd]; exact lx) rfl (by decide) fun v28 H28 s e => ?_
    replace acc : ExAll K mg H28 dx dy dz [.ref v0, .ref v1, .ref v2, .ref v3, .ref v4, .ref v5, .ref v6, .ref v7, .ref v8, .ref v9, .ref v10, .ref v11, .ref v12, .ref v13, .ref v14, .ref v15, .ref v16, .ref v17, .ref v18, .ref v19, .ref v20, .ref v21, .ref v22, .ref v23, .ref v24, .ref v25, .ref v26, .ref v27, .ref v28] [Str.ofString "InvalidName", Str.ofString "InvalidLot", Str.ofString "InvalidFind", Str.ofString "InvalidWord", Str.ofString "InvalidFact", Str.ofString "InvalidOrder", Str.ofString "InvalidKind", Str.ofString "InvalidPair", Str.ofString "InvalidDeed", Str.ofString "InvalidText", Str.ofString "InvalidNumber", Str.ofString "InvalidStatement", Str.ofString "InvalidQuestion", Str.ofString "InvalidClaim", Str.ofString "InvalidTimes", Str.ofString "InvalidWeights", Str.ofString "DuplicateName", Str.ofString "TooMany", Str.ofString "TooFew", Str.ofString "CannotStand", Str.ofString "Standing", Str.ofString "Clash", Str.ofString "NotFitting", Str.ofString "NotShown", Str.ofString "NotABlock", Str.ofString "OtherFinds", Str.ofString "Same", Str.ofString "NoTable", Str.ofString "Taken"] := acc.snoc s e (by rw [show (fldsN (Str.ofString "Taken")).length = 1 by decide +kernel]; rfl)
    have rx := rx.to s
    have ry := ry.to s
    have rz := rz.to s
    have t28 := t27.trans s
    clear s e t27
    refine ⟨_, rfl, ?_⟩
    refine newV_of (ds := [dx]) (fl := ["mark"]) E_c_InUse_init (by decide +kernel) (by decide +kernel) (.cons rx .nil) (fun d hd => by simp only [List.mem_cons, List.not_mem_nil, or_false] at hd; rw [hd]; exact lx) rfl (by decide) fun v29 H29 s e => ?_
    replace acc : ExAll K mg H29 dx dy dz [.ref v0, .ref v1, .ref v2, .ref v3, .ref v4, .ref v5, .ref v6, .ref v7, .ref v8, .ref v9, .ref v10, .ref v11, .ref v12, .ref v13, .ref v14, .ref v15, .ref v16, .ref v17, .ref v18, .ref v19, .ref v20, .ref v21, .ref v22, .ref v23, .ref v24, .ref v25, .ref v26, .ref v27, .ref v28, .ref v29] [Str.ofString "InvalidName", Str.ofString "InvalidLot", Str.ofString "InvalidFind", Str.ofString "InvalidWord", Str.ofString "InvalidFact", Str.ofString "InvalidOrder", Str.ofString "InvalidKind", Str.ofString "InvalidPair", Str.ofString "InvalidDeed", Str.ofString "InvalidText", Str.ofString "InvalidNumber", Str.ofString "InvalidStatement", Str.ofString "InvalidQuestion", Str.ofString "InvalidClaim", Str.ofString "InvalidTimes", Str.ofString "InvalidWeights", Str.ofString "DuplicateName", Str.ofString "TooMany", Str.ofString "TooFew", Str.ofString "CannotStand", Str.ofString "Standing", Str.ofString "Clash", Str.ofString "NotFitting", Str.ofString "NotShown", Str.ofString "NotABlock", Str.ofString "OtherFinds", Str.ofString "Same", Str.ofString "NoTable", Str.ofString "Taken", Str.ofString "InUse"] := acc.snoc s e (by rw [show (fldsN (Str.ofString "InUse")).length = 1 by decide +kernel]; rfl)
    have rx := rx.to s
    have ry := ry.to s
    have rz := rz.to s
    have t29 := t28.trans s
    clear s e t28
    refine newV_of (ds := []) (fl := []) E_c_NoFinds_init (by decide +kernel) (by decide +kernel) .nil (fun d hd => (List.not_mem_nil hd).elim) rfl (by decide) fun v30 H30 s e => ?_
    replace acc : ExAll K mg H30 dx dy dz [.ref v0, .ref v1, .ref v2, .ref v3, .ref v4, .ref v5, .ref v6, .ref v7, .ref v8, .ref v9, .ref v10, .ref v11, .ref v12, .ref v13, .ref v14, .ref v15, .ref v16, .ref v17, .ref v18, .ref v19, .ref v20, .ref v21, .ref v22, .ref v23, .ref v24, .ref v25, .ref v26, .ref v27, .ref v28, .ref v29, .ref v30] [Str.ofString "InvalidName", Str.ofString "InvalidLot", Str.ofString "InvalidFind", Str.ofString "InvalidWord", Str.ofString "InvalidFact", Str.ofString "InvalidOrder", Str.ofString "InvalidKind", Str.ofString "InvalidPair", Str.ofString "InvalidDeed", Str.ofString "InvalidText", Str.ofString "InvalidNumber", Str.ofString "InvalidStatement", Str.ofString "InvalidQuestion", Str.ofString "InvalidClaim", Str.ofString "InvalidTimes", Str.ofString "InvalidWeights", Str.ofString "DuplicateName", Str.ofString "TooMany", Str.ofString "TooFew", Str.ofString "CannotStand", Str.ofString "Standing", Str.ofString "Clash", Str.ofString "NotFitting", Str.ofString "NotShown", Str.ofString "NotABlock", Str.ofString "OtherFinds", Str.ofString "Same", Str.ofString "NoTable", Str.ofString "Taken", Str.ofString "InUse", Str.ofString "NoFinds"] := acc.snoc s e (by rw [show (fldsN (Str.ofString "NoFinds")).length = 0 by decide +kernel]; rfl)
    have rx := rx.to s
    have ry := ry.to s
    have rz := rz.to s
    have t30 := t29.trans s
    clear s e t29
    refine ⟨_, rfl, ?_⟩
    refine newV_of (ds := [dx]) (fl := ["name"]) E_c_UnknownName_init (by decide +kernel) (by decide +kernel) (.cons rx .nil) (fun d hd => by simp only [List.mem_cons, List.not_mem_nil, or_false] at hd; rw [hd]; exact lx) rfl (by decide) fun v31 H31 s e => ?_
    replace acc : ExAll K mg H31 dx dy dz [.ref v0, .ref v1, .ref v2, .ref v3, .ref v4, .ref v5, .ref v6, .ref v7, .ref v8, .ref v9, .ref v10, .ref v11, .ref v12, .ref v13, .ref v14, .ref v15, .ref v16, .ref v17, .ref v18, .ref v19, .ref v20, .ref v21, .ref v22, .ref v23, .ref v24, .ref v25, .ref v26, .ref v27, .ref v28, .ref v29, .ref v30, .ref v31] [Str.ofString "InvalidName", Str.ofString "InvalidLot", Str.ofString "InvalidFind", Str.ofString "InvalidWord", Str.ofString "InvalidFact", Str.ofString "InvalidOrder", Str.ofString "InvalidKind", Str.ofString "InvalidPair", Str.ofString "InvalidDeed", Str.ofString "InvalidText", Str.ofString "InvalidNumber", Str.ofString "InvalidStatement", Str.ofString "InvalidQuestion", Str.ofString "InvalidClaim", Str.ofString "InvalidTimes", Str.ofString "InvalidWeights", Str.ofString "DuplicateName", Str.ofString "TooMany", Str.ofString "TooFew", Str.ofString "CannotStand", Str.ofString "Standing", Str.ofString "Clash", Str.ofString "NotFitting", Str.ofString "NotShown", Str.ofString "NotABlock", Str.ofString "OtherFinds", Str.ofString "Same", Str.ofString "NoTable", Str.ofString "Taken", Str.ofString "InUse", Str.ofString "NoFinds", Str.ofString "UnknownName"] := acc.snoc s e (by rw [show (fldsN (Str.ofString "UnknownName")).length = 1 by decide +kernel]; rfl)
    have rx := rx.to s
    have ry := ry.to s
    have rz := rz.to s
    have t31 := t30.trans s
    clear s e t30
    refine ⟨_, rfl, ?_⟩
    refine newV_of (ds := [dx]) (fl := ["name"]) E_c_UnknownFind_init (by decide +kernel) (by decide +kernel) (.cons rx .nil) (fun d hd => by simp only [List.mem_cons, List.not_mem_nil, or_false] at hd; rw [hd]; exact lx) rfl (by decide) fun v32 H32 s e => ?_
    replace acc : ExAll K mg H32 dx dy dz [.ref v0, .ref v1, .ref v2, .ref v3, .ref v4, .ref v5, .ref v6, .ref v7, .ref v8, .ref v9, .ref v10, .ref v11, .ref v12, .ref v13, .ref v14, .ref v15, .ref v16, .ref v17, .ref v18, .ref v19, .ref v20, .ref v21, .ref v22, .ref v23, .ref v24, .ref v25, .ref v26, .ref v27, .ref v28, .ref v29, .ref v30, .ref v31, .ref v32] [Str.ofString "InvalidName", Str.ofString "InvalidLot", Str.ofString "InvalidFind", Str.ofString "InvalidWord", Str.ofString "InvalidFact", Str.ofString "InvalidOrder", Str.ofString "InvalidKind", Str.ofString "InvalidPair", Str.ofString "InvalidDeed", Str.ofString "InvalidText", Str.ofString "InvalidNumber", Str.ofString "InvalidStatement", Str.ofString "InvalidQuestion", Str.ofString "InvalidClaim", Str.ofString "InvalidTimes", Str.ofString "InvalidWeights", Str.ofString "DuplicateName", Str.ofString "TooMany", Str.ofString "TooFew", Str.ofString "CannotStand", Str.ofString "Standing", Str.ofString "Clash", Str.ofString "NotFitting", Str.ofString "NotShown", Str.ofString "NotABlock", Str.ofString "OtherFinds", Str.ofString "Same", Str.ofString "NoTable", Str.ofString "Taken", Str.ofString "InUse", Str.ofString "NoFinds", Str.ofString "UnknownName", Str.ofString "UnknownFind"] := acc.snoc s e (by rw [show (fldsN (Str.ofString "UnknownFind")).length = 1 by decide +kernel]; rfl)
    have rx := rx.to s
    have ry := ry.to s
    have rz := rz.to s
    have t32 := t31.trans s
    clear s e t31
    refine ⟨_, rfl, ?_⟩
    refine newV_of (ds := [dx]) (fl := ["lot"]) E_c_UnknownNode_init (by decide +kernel) (by decide +kernel) (.cons rx .nil) (fun d hd => by simp only [List.mem_cons, List.not_mem_nil, or_false] at hd; rw [hd]; exact lx) rfl (by decide) fun v33 H33 s e => ?_
    replace acc : ExAll K mg H33 dx dy dz [.ref v0, .ref v1, .ref v2, .ref v3, .ref v4, .ref v5, .ref v6, .ref v7, .ref v8, .ref v9, .ref v10, .ref v11, .ref v12, .ref v13, .ref v14, .ref v15, .ref v16, .ref v17, .ref v18, .ref v19, .ref v20, .ref v21, .ref v22, .ref v23, .ref v24, .ref v25, .ref v26, .ref v27, .ref v28, .ref v29, .ref v30, .ref v31, .ref v32, .ref v33] [Str.ofString "InvalidName", Str.ofString "InvalidLot", Str.ofString "InvalidFind", Str.ofString "InvalidWord", Str.ofString "InvalidFact", Str.ofString "InvalidOrder", Str.ofString "InvalidKind", Str.ofString "InvalidPair", Str.ofString "InvalidDeed", Str.ofString "InvalidText", Str.ofString "InvalidNumber", Str.ofString "InvalidStatement", Str.ofString "InvalidQuestion", Str.ofString "InvalidClaim", Str.ofString "InvalidTimes", Str.ofString "InvalidWeights", Str.ofString "DuplicateName", Str.ofString "TooMany", Str.ofString "TooFew", Str.ofString "CannotStand", Str.ofString "Standing", Str.ofString "Clash", Str.ofString "NotFitting", Str.ofString "NotShown", Str.ofString "NotABlock", Str.ofString "OtherFinds", Str.ofString "Same", Str.ofString "NoTable", Str.ofString "Taken", Str.ofString "InUse", Str.ofString "NoFinds", Str.ofString "UnknownName", Str.ofString "UnknownFind", Str.ofString "UnknownNode"] := acc.snoc s e (by rw [show (fldsN (Str.ofString "UnknownNode")).length = 1 by decide +kernel]; rfl)
    have rx := rx.to s
    have ry := ry.to s
    have rz := rz.to s
    have t33 := t32.trans s
    clear s e t32
    refine ⟨_, rfl, ?_⟩
    refine newV_of (ds := [dx]) (fl := ["at"]) E_c_UnknownKept_init (by decide +kernel) (by decide +kernel) (.cons rx .nil) (fun d hd => by simp only [List.mem_cons, List.not_mem_nil, or_false] at hd; rw [hd]; exact lx) rfl (by decide) fun v34 H34 s e => ?_
    replace acc : ExAll K mg H34 dx dy dz [.ref v0, .ref v1, .ref v2, .ref v3, .ref v4, .ref v5, .ref v6, .ref v7, .ref v8, .ref v9, .ref v10, .ref v11, .ref v12, .ref v13, .ref v14, .ref v15, .ref v16, .ref v17, .ref v18, .ref v19, .ref v20, .ref v21, .ref v22, .ref v23, .ref v24, .ref v25, .ref v26, .ref v27, .ref v28, .ref v29, .ref v30, .ref v31, .ref v32, .ref v33, .ref v34] [Str.ofString "InvalidName", Str.ofString "InvalidLot", Str.ofString "InvalidFind", Str.ofString "InvalidWord", Str.ofString "InvalidFact", Str.ofString "InvalidOrder", Str.ofString "InvalidKind", Str.ofString "InvalidPair", Str.ofString "InvalidDeed", Str.ofString "InvalidText", Str.ofString "InvalidNumber", Str.ofString "InvalidStatement", Str.ofString "InvalidQuestion", Str.ofString "InvalidClaim", Str.ofString "InvalidTimes", Str.ofString "InvalidWeights", Str.ofString "DuplicateName", Str.ofString "TooMany", Str.ofString "TooFew", Str.ofString "CannotStand", Str.ofString "Standing", Str.ofString "Clash", Str.ofString "NotFitting", Str.ofString "NotShown", Str.ofString "NotABlock", Str.ofString "OtherFinds", Str.ofString "Same", Str.ofString "NoTable", Str.ofString "Taken", Str.ofString "InUse", Str.ofString "NoFinds", Str.ofString "UnknownName", Str.ofString "UnknownFind", Str.ofString "UnknownNode", Str.ofString "UnknownKept"] := acc.snoc s e (by rw [show (fldsN (Str.ofString "UnknownKept")).length = 1 by decide +kernel]; rfl)
    have rx := rx.to s
    have ry := ry.to s
    have rz := rz.to s
    have t34 := t33.trans s
    clear s e t33
    refine newV_of (ds := []) (fl := []) E_c_NothingLeft_init (by decide +kernel) (by decide +kernel) .nil (fun d hd => (List.not_mem_nil hd).elim) rfl (by decide) fun v35 H35 s e => ?_
    replace acc : ExAll K mg H35 dx dy dz [.ref v0, .ref v1, .ref v2, .ref v3, .ref v4, .ref v5, .ref v6, .ref v7, .ref v8, .ref v9, .ref v10, .ref v11, .ref v12, .ref v13, .ref v14, .ref v15, .ref v16, .ref v17, .ref v18, .ref v19, .ref v20, .ref v21, .ref v22, .ref v23, .ref v24, .ref v25, .ref v26, .ref v27, .ref v28, .ref v29, .ref v30, .ref v31, .ref v32, .ref v33, .ref v34, .ref v35] [Str.ofString "InvalidName", Str.ofString "InvalidLot", Str.ofString "InvalidFind", Str.ofString "InvalidWord", Str.ofString "InvalidFact", Str.ofString "InvalidOrder", Str.ofString "InvalidKind", Str.ofString "InvalidPair", Str.ofString "InvalidDeed", Str.ofString "InvalidText", Str.ofString "InvalidNumber", Str.ofString "InvalidStatement", Str.ofString "InvalidQuestion", Str.ofString "InvalidClaim", Str.ofString "InvalidTimes", Str.ofString "InvalidWeights", Str.ofString "DuplicateName", Str.ofString "TooMany", Str.ofString "TooFew", Str.ofString "CannotStand", Str.ofString "Standing", Str.ofString "Clash", Str.ofString "NotFitting", Str.ofString "NotShown", Str.ofString "NotABlock", Str.ofString "OtherFinds", Str.ofString "Same", Str.ofString "NoTable", Str.ofString "Taken", Str.ofString "InUse", Str.ofString "NoFinds", Str.ofString "UnknownName", Str.ofString "UnknownFind", Str.ofString "UnknownNode", Str.ofString "UnknownKept", Str.ofString "NothingLeft"] := acc.snoc s e (by rw [show (fldsN (Str.ofString "NothingLeft")).length = 0 by decide +kernel]; rfl)
    have rx := rx.to s
    have ry := ry.to s
    have rz := rz.to s
    have t35 := t34.trans s
    clear s e t34
    refine ⟨by show 36 ≤ sizeLine; decide, fun L nL => ?_⟩
    have sn := same_new (o := .lst [V.ref v0, V.ref v1, V.ref v2, V.ref v3, V.ref v4, V.ref v5, V.ref v6, V.ref v7, V.ref v8, V.ref v9, V.ref v10, V.ref v11, V.ref v12, V.ref v13, V.ref v14, V.ref v15, V.ref v16, V.ref v17, V.ref v18, V.ref v19, V.ref v20, V.ref v21, V.ref v22, V.ref v23, V.ref v24, V.ref v25, V.ref v26, V.ref v27, V.ref v28, V.ref v29, V.ref v30, V.ref v31, V.ref v32, V.ref v33, V.ref v34, V.ref v35]) nL
    exact q L _ _ (t35.trans sn) upd_same (acc.to sn)
end
end Th
namespace Th
open PySem PySem.Spec PyProof.Rows L2
theorem sc_l_by_name : FnScope ["_law_x", "_law_y", "_law_z"] ["_law_x", "_law_y", "_law_z"] (defScope s_l_by_name) := ⟨rfl, rfl, rfl, by decide +kernel, rfl, by decide +kernel, by decide +kernel⟩

section
variable {P : Program} {w : World} {K : PySem.W.Frag} {mg : Str → Option Value} {base : Heap} {CB : Addr}
theorem has_l_by_name (Z : Zs mg) (A : At K mg "_law_by_name" s_l_by_name ["_law_x", "_law_y", "_law_z"]) (h_c_InvalidName_init : HasE0 P w K mg base "InvalidName" "InvalidName.__init__" s_c_InvalidName_init ["self", "value"] ["value", "code"] 7 (spInitN K "InvalidName" ["value"] 6)) (h_c_InvalidLot_init : HasE0 P w K mg base "InvalidLot" "InvalidLot.__init__" s_c_InvalidLot_init ["self", "at"] ["at", "code"] 7 (spInitN K "InvalidLot" ["at"] 6)) (h_c_InvalidFind_init : HasE0 P w K mg base "InvalidFind" "InvalidFind.__init__" s_c_InvalidFind_init ["self", "at"] ["at", "code"] 7 (spInitN K "InvalidFind" ["at"] 6)) (h_c_InvalidWord_init : HasE0 P w K mg base "InvalidWord" "InvalidWord.__init__" s_c_InvalidWord_init ["self", "at"] ["at", "code"] 7 (spInitN K "InvalidWord" ["at"] 6)) (h_c_InvalidFact_init : HasE0 P w K mg base "InvalidFact" "InvalidFact.__init__" s_c_InvalidFact_init ["self", "at"] ["at", "code"] 7 (spInitN K "InvalidFact" ["at"] 6)) (h_c_InvalidOrder_init : HasE0 P w K mg base "InvalidOrder" "InvalidOrder.__init__" s_c_InvalidOrder_init ["self", "at"] ["at", "code"] 7 (spInitN K "InvalidOrder" ["at"] 6)) (h_c_InvalidKind_init : HasE0 P w K mg base "InvalidKind" "InvalidKind.__init__" s_c_InvalidKind_init ["self", "at"] ["at", "code"] 7 (spInitN K "InvalidKind" ["at"] 6)) (h_c_InvalidPair_init : HasE0 P w K mg base "InvalidPair" "InvalidPair.__init__" s_c_InvalidPair_init ["self", "at"] ["at", "code"] 7 (spInitN K "InvalidPair" ["at"] 6)) (h_c_InvalidDeed_init : HasE0 P w K mg base "InvalidDeed" "InvalidDeed.__init__" s_c_InvalidDeed_init ["self", "at"] ["at", "code"] 7 (spInitN K "InvalidDeed" ["at"] 6)) (h_c_InvalidText_init : HasE0 P w K mg base "InvalidText" "InvalidText.__init__" s_c_InvalidText_init ["self", "line", "why"] ["line", "why", "code"] 7 (spInitN K "InvalidText" ["line", "why"] 6)) (h_c_InvalidNumber_init : HasE0 P w K mg base "InvalidNumber" "InvalidNumber.__init__" s_c_InvalidNumber_init ["self", "value"] ["value", "code"] 7 (spInitN K "InvalidNumber" ["value"] 6)) (h_c_InvalidStatement_init : HasE0 P w K mg base "InvalidStatement" "InvalidStatement.__init__" s_c_InvalidStatement_init ["self"] ["code"] 7 (spInitN K "InvalidStatement" [] 6)) (h_c_InvalidQuestion_init : HasE0 P w K mg base "InvalidQuestion" "InvalidQuestion.__init__" s_c_InvalidQuestion_init ["self"] ["code"] 7 (spInitN K "InvalidQuestion" [] 6)) (h_c_InvalidClaim_init : HasE0 P w K mg base "InvalidClaim" "InvalidClaim.__init__" s_c_InvalidClaim_init ["self"] ["code"] 7 (spInitN K "InvalidClaim" [] 6)) (h_c_InvalidTimes_init : HasE0 P w K mg base "InvalidTimes" "InvalidTimes.__init__" s_c_InvalidTimes_init ["self", "name"] ["name", "code"] 7 (spInitN K "InvalidTimes" ["name"] 6)) (h_c_InvalidWeights_init : HasE0 P w K mg base "InvalidWeights" "InvalidWeights.__init__" s_c_InvalidWeights_init ["self", "name"] ["name", "code"] 7 (spInitN K "InvalidWeights" ["name"] 6)) (h_c_DuplicateName_init : HasE0 P w K mg base "DuplicateName" "DuplicateName.__init__" s_c_DuplicateName_init ["self", "name"] ["name", "code"] 7 (spInitN K "DuplicateName" ["name"] 6)) (h_c_TooMany_init : HasE0 P w K mg base "TooMany" "TooMany.__init__" s_c_TooMany_init ["self", "most"] ["most", "code"] 7 (spInitN K "TooMany" ["most"] 6)) (h_c_TooFew_init : HasE0 P w K mg base "TooFew" "TooFew.__init__" s_c_TooFew_init ["self", "least"] ["least", "code"] 7 (spInitN K "TooFew" ["least"] 6)) (h_c_CannotStand_init : HasE0 P w K mg base "CannotStand" "CannotStand.__init__" s_c_CannotStand_init ["self", "one", "two", "three"] ["one", "two", "three", "code"] 7 (spInitN K "CannotStand" ["one", "two", "three"] 6)) (h_c_Standing_init : HasE0 P w K mg base "Standing" "Standing.__init__" s_c_Standing_init ["self"] ["code"] 7 (spInitN K "Standing" [] 6)) (h_c_Clash_init : HasE0 P w K mg base "Clash" "Clash.__init__" s_c_Clash_init ["self", "marks"] ["marks", "code"] 7 (spInitN K "Clash" ["marks"] 6)) (h_c_NotFitting_init : HasE0 P w K mg base "NotFitting" "NotFitting.__init__" s_c_NotFitting_init ["self"] ["code"] 7 (spInitN K "NotFitting" [] 6)) (h_c_NotShown_init : HasE0 P w K mg base "NotShown" "NotShown.__init__" s_c_NotShown_init ["self"] ["code"] 7 (spInitN K "NotShown" [] 6)) (h_c_NotABlock_init : HasE0 P w K mg base "NotABlock" "NotABlock.__init__" s_c_NotABlock_init ["self", "lot"] ["lot", "code"] 7 (spInitN K "NotABlock" ["lot"] 6)) (h_c_OtherFinds_init : HasE0 P w K mg base "OtherFinds" "OtherFinds.__init__" s_c_OtherFinds_init ["self"] ["code"] 7 (spInitN K "OtherFinds" [] 6)) (h_c_Same_init : HasE0 P w K mg base "Same" "Same.__init__" s_c_Same_init ["self", "name"] ["name", "code"] 7 (spInitN K "Same" ["name"] 6)) (h_c_NoTable_init : HasE0 P w K mg base "NoTable" "NoTable.__init__" s_c_NoTable_init ["self", "why", "found"] ["why", "found", "code"] 7 (spInitN K "NoTable" ["why", "found"] 6)) (h_c_Taken_init : HasE0 P w K mg base "Taken" "Taken.__init__" s_c_Taken_init ["self", "name"] ["name", "code"] 7 (spInitN K "Taken" ["name"] 6)) (h_c_InUse_init : HasE0 P w K mg base "InUse" "InUse.__init__" s_c_InUse_init ["self", "mark"] ["mark", "code"] 7 (spInitN K "InUse" ["mark"] 6)) (h_c_NoFinds_init : HasE0 P w K mg base "NoFinds" "NoFinds.__init__" s_c_NoFinds_init ["self"] ["code"] 7 (spInitN K "NoFinds" [] 6)) (h_c_UnknownName_init : HasE0 P w K mg base "UnknownName" "UnknownName.__init__" s_c_UnknownName_init ["self", "name"] ["name", "code"] 7 (spInitN K "UnknownName" ["name"] 6)) (h_c_UnknownFind_init : HasE0 P w K mg base "UnknownFind" "UnknownFind.__init__" s_c_UnknownFind_init ["self", "name"] ["name", "code"] 7 (spInitN K "UnknownFind" ["name"] 6)) (h_c_UnknownNode_init : HasE0 P w K mg base "UnknownNode" "UnknownNode.__init__" s_c_UnknownNode_init ["self", "lot"] ["lot", "code"] 7 (spInitN K "UnknownNode" ["lot"] 6)) (h_c_UnknownKept_init : HasE0 P w K mg base "UnknownKept" "UnknownKept.__init__" s_c_UnknownKept_init ["self", "at"] ["at", "code"] 7 (spInitN K "UnknownKept" ["at"] 6)) (h_c_NothingLeft_init : HasE0 P w K mg base "NothingLeft" "NothingLeft.__init__" s_c_NothingLeft_init ["self"] ["code"] 7 (spInitN K "NothingLeft" [] 6)) : Has P w K mg base "_law_by_name" s_l_by_name 11 ["_law_x", "_law_y", "_law_z"] (spByE K mg) := by
  obtain ⟨f, fd, F, mg1, bd⟩ := A
  obtain ⟨C_c_InvalidName_init, fI_c_InvalidName_init, fd_c_InvalidName_init, E_c_InvalidName_init, G_c_InvalidName_init⟩ := h_c_InvalidName_init
  obtain ⟨C_c_InvalidLot_init, fI_c_InvalidLot_init, fd_c_InvalidLot_init, E_c_InvalidLot_init, G_c_InvalidLot_init⟩ := h_c_InvalidLot_init
  obtain ⟨C_c_InvalidFind_init, fI_c_InvalidFind_init, fd_c_InvalidFind_init, E_c_InvalidFind_init, G_c_InvalidFind_init⟩ := h_c_InvalidFind_init
  obtain ⟨C_c_InvalidWord_init, fI_c_InvalidWord_init, fd_c_InvalidWord_init, E_c_InvalidWord_init, G_c_InvalidWord_init⟩ := h_c_InvalidWord_init
  obtain ⟨C_c_InvalidFact_init, fI_c_InvalidFact_init, fd_c_InvalidFact_init, E_c_InvalidFact_init, G_c_InvalidFact_init⟩ := h_c_InvalidFact_init
  obtain ⟨C_c_InvalidOrder_init, fI_c_InvalidOrder_init, fd_c_InvalidOrder_init, E_c_InvalidOrder_init, G_c_InvalidOrder_init⟩ := h_c_InvalidOrder_init
  obtain ⟨C_c_InvalidKind_init, fI_c_InvalidKind_init, fd_c_InvalidKind_init, E_c_InvalidKind_init, G_c_InvalidKind_init⟩ := h_c_InvalidKind_init
  obtain ⟨C_c_InvalidPair_init, fI_c_InvalidPair_init, fd_c_InvalidPair_init, E_c_InvalidPair_init, G_c_InvalidPair_init⟩ := h_c_InvalidPair_init
  obtain ⟨C_c_InvalidDeed_init, fI_c_InvalidDeed_init, fd_c_InvalidDeed_init, E_c_InvalidDeed_init, G_c_InvalidDeed_init⟩ := h_c_InvalidDeed_init
  obtain ⟨C_c_InvalidText_init, fI_c_InvalidText_init, fd_c_InvalidText_init, E_c_InvalidText_init, G_c_InvalidText_init⟩ := h_c_InvalidText_init
  obtain ⟨C_c_InvalidNumber_init, fI_c_InvalidNumber_init, fd_c_InvalidNumber_init, E_c_InvalidNumber_init, G_c_InvalidNumber_init⟩ := h_c_InvalidNumber_init
  obtain ⟨C_c_InvalidStatement_init, fI_c_InvalidStatement_init, fd_c_InvalidStatement_init, E_c_InvalidStatement_init, G_c_InvalidStatement_init⟩ := h_c_InvalidStatement_init
  obtain ⟨C_c_InvalidQuestion_init, fI_c_InvalidQuestion_init, fd_c_InvalidQuestion_init, E_c_InvalidQuestion_init, G_c_InvalidQuestion_init⟩ := h_c_InvalidQuestion_init
  obtain ⟨C_c_InvalidClaim_init, fI_c_InvalidClaim_init, fd_c_InvalidClaim_init, E_c_InvalidClaim_init, G_c_InvalidClaim_init⟩ := h_c_InvalidClaim_init
  obtain ⟨C_c_InvalidTimes_init, fI_c_InvalidTimes_init, fd_c_InvalidTimes_init, E_c_InvalidTimes_init, G_c_InvalidTimes_init⟩ := h_c_InvalidTimes_init
  obtain ⟨C_c_InvalidWeights_init, fI_c_InvalidWeights_init, fd_c_InvalidWeights_init, E_c_InvalidWeights_init, G_c_InvalidWeights_init⟩ := h_c_InvalidWeights_init
  obtain ⟨C_c_DuplicateName_init, fI_c_DuplicateName_init, fd_c_DuplicateName_init, E_c_DuplicateName_init, G_c_DuplicateName_init⟩ := h_c_DuplicateName_init
  obtain ⟨C_c_TooMany_init, fI_c_TooMany_init, fd_c_TooMany_init, E_c_TooMany_init, G_c_TooMany_init⟩ := h_c_TooMany_init
  obtain ⟨C_c_TooFew_init, fI_c_TooFew_init, fd_c_TooFew_init, E_c_TooFew_init, G_c_TooFew_init⟩ := h_c_TooFew_init
  obtain ⟨C_c_CannotStand_init, fI_c_CannotStand_init, fd_c_CannotStand_init, E_c_CannotStand_init, G_c_CannotStand_init⟩ := h_c_CannotStand_init
  obtain ⟨C_c_Standing_init, fI_c_Standing_init, fd_c_Standing_init, E_c_Standing_init, G_c_Standing_init⟩ := h_c_Standing_init
  obtain ⟨C_c_Clash_init, fI_c_Clash_init, fd_c_Clash_init, E_c_Clash_init, G_c_Clash_init⟩ := h_c_Clash_init
  obtain ⟨C_c_NotFitting_init, fI_c_NotFitting_init, fd_c_NotFitting_init, E_c_NotFitting_init, G_c_NotFitting_init⟩ := h_c_NotFitting_init
  obtain ⟨C_c_NotShown_init, fI_c_NotShown_init, fd_c_NotShown_init, E_c_NotShown_init, G_c_NotShown_init⟩ := h_c_NotShown_init
  obtain ⟨C_c_NotABlock_init, fI_c_NotABlock_init, fd_c_NotABlock_init, E_c_NotABlock_init, G_c_NotABlock_init⟩ := h_c_NotABlock_init
  obtain ⟨C_c_OtherFinds_init, fI_c_OtherFinds_init, fd_c_OtherFinds_init, E_c_OtherFinds_init, G_c_OtherFinds_init⟩ := h_c_OtherFinds_init
  obtain ⟨C_c_Same_init, fI_c_Same_init, fd_c_Same_init, E_c_Same_init, G_c_Same_init⟩ := h_c_Same_init
  obtain ⟨C_c_NoTable_init, fI_c_NoTable_init, fd_c_NoTable_init, E_c_NoTable_init, G_c_NoTable_init⟩ := h_c_NoTable_init
  obtain ⟨C_c_Taken_init, fI_c_Taken_init, fd_c_Taken_init, E_c_Taken_init, G_c_Taken_init⟩ := h_c_Taken_init
  obtain ⟨C_c_InUse_init, fI_c_InUse_init, fd_c_InUse_init, E_c_InUse_init, G_c_InUse_init⟩ := h_c_InUse_init
  obtain ⟨C_c_NoFinds_init, fI_c_NoFinds_init, fd_c_NoFinds_init, E_c_NoFinds_init, G_c_NoFinds_init⟩ := h_c_NoFinds_init
  obtain ⟨C_c_UnknownName_init, fI_c_UnknownName_init, fd_c_UnknownName_init, E_c_UnknownName_init, G_c_UnknownName_init⟩ := h_c_UnknownName_init
  obtain ⟨C_c_UnknownFind_init, fI_c_UnknownFind_init, fd_c_UnknownFind_init, E_c_UnknownFind_init, G_c_UnknownFind_init⟩ := h_c_UnknownFind_init
  obtain ⟨C_c_UnknownNode_init, fI_c_UnknownNode_init, fd_c_UnknownNode_init, E_c_UnknownNode_init, G_c_UnknownNode_init⟩ := h_c_UnknownNode_init
  obtain ⟨C_c_UnknownKept_init, fI_c_UnknownKept_init, fd_c_UnknownKept_init, E_c_UnknownKept_init, G_c_UnknownKept_init⟩ := h_c_UnknownKept_init
  obtain ⟨C_c_NothingLeft_init, fI_c_NothingLeft_init, fd_c_NothingLeft_init, E_c_NothingLeft_init, G_c_NothingLeft_init⟩ := h_c_NothingLeft_init
  refine ⟨f, fd, ?_, mg1, F.kp, bd, F⟩
  refine F.ok sc_l_by_name (fun vs H Q E h => ?_) (fun cdv A outer s H vs Q E hr h => ?_)
  · obtain ⟨x, y, z, dx, dy, dz, rfl, _⟩ := h
    rfl
  · obtain ⟨x, y, z, dx, dy, dz, rfl, rx, ry, rz, lx, ly, lz, q⟩ := h
    have kv_c_InvalidName_init := kbE (ks := ["value"]) (ps := ["self", "value"]) (g := g1) E_c_InvalidName_init.F (fun kV doc pm an cdv ct self ws hl => by
      match ws, hl with
      | [], e => cases e
      | [_], _ => rfl
      | _ :: _ :: _, e => cases e)
    have kv_c_InvalidLot_init := kbE (ks := ["at"]) (ps := ["self", "at"]) (g := g1) E_c_InvalidLot_init.F (fun kV doc pm an cdv ct self ws hl => by
      match ws, hl with
      | [], e => cases e
      | [_], _ => rfl
      | _ :: _ :: _, e => cases e)
    have kv_c_InvalidFind_init := kbE (ks := ["at"]) (ps := ["self", "at"]) (g := g1) E_c_InvalidFind_init.F (fun kV doc pm an cdv ct self ws hl => by
      match ws, hl with
      | [], e => cases e
      | [_], _ => rfl
      | _ :: _ :: _, e => cases e)
    have kv_c_InvalidWord_init := kbE (ks := ["at"]) (ps := ["self", "at"]) (g := g1) E_c_InvalidWord_init.F (fun kV doc pm an cdv ct self ws hl => by
      match ws, hl with
      | [], e => cases e
      | [_], _ => rfl
      | _ :: _ :: _, e => cases e)
    have kv_c_InvalidFact_init := kbE (ks := ["at"]) (ps := ["self", "at"]) (g := g1) E_c_InvalidFact_init.F (fun kV doc pm an cdv ct self ws hl => by
      match ws, hl with
      | [], e => cases e
      | [_], _ => rfl
      | _ :: _ :: _, e => cases e)
    have kv_c_InvalidOrder_init := kbE (ks := ["at"]) (ps := ["self", "at"]) (g := g1) E_c_InvalidOrder_init.F (fun kV doc pm an cdv ct self ws hl => by
      match ws, hl with
      | [], e => cases e
      | [_], _ => rfl
      | _ :: _ :: _, e => cases e)
    have kv_c_InvalidKind_init := kbE (ks := ["at"]) (ps := ["self", "at"]) (g := g1) E_c_InvalidKind_init.F (fun kV doc pm an cdv ct self ws hl => by
      match ws, hl with
      | [], e => cases e
      | [_], _ => rfl
      | _ :: _ :: _, e => cases e)
    have kv_c_InvalidPair_init := kbE (ks := ["at"]) (ps := ["self", "at"]) (g := g1) E_c_InvalidPair_init.F (fun kV doc pm an cdv ct self ws hl => by
      match ws, hl with
      | [], e => cases e
      | [_], _ => rfl
      | _ :: _ :: _, e => cases e)
    have kv_c_InvalidDeed_init := kbE (ks := ["at"]) (ps := ["self", "at"]) (g := g1) E_c_InvalidDeed_init.F (fun kV doc pm an cdv ct self ws hl => by
      match ws, hl with
      | [], e => cases e
      | [_], _ => rfl
      | _ :: _ :: _, e => cases e)
    have kv_c_InvalidText_init := kbE (ks := ["why", "line"]) (ps := ["self", "line", "why"]) (g := g2) E_c_InvalidText_init.F (fun kV doc pm an cdv ct self ws hl => by
      match ws, hl with
      | [], e => cases e
      | [_], e => cases e
      | [_, _], _ => rfl
      | _ :: _ :: _ :: _, e => cases e)
    have kv_c_InvalidNumber_init := kbE (ks := ["value"]) (ps := ["self", "value"]) (g := g1) E_c_InvalidNumber_init.F (fun kV doc pm an cdv ct self ws hl => by
      match ws, hl with
      | [], e => cases e
      | [_], _ => rfl
      | _ :: _ :: _, e => cases e)
    have kv_c_InvalidTimes_init := kbE (ks := ["name"]) (ps := ["self", "name"]) (g := g1) E_c_InvalidTimes_init.F (fun kV doc pm an cdv ct self ws hl => by
      match ws, hl with
      | [], e => cases e
      | [_], _ => rfl
      | _ :: _ :: _, e => cases e)
    have kv_c_InvalidWeights_init := kbE (ks := ["name"]) (ps := ["self", "name"]) (g := g1) E_c_InvalidWeights_init.F (fun kV doc pm an cdv ct self ws hl => by
      match ws, hl with
      | [], e => cases e
      | [_], _ => rfl
      | _ :: _ :: _, e => cases e)
    have kv_c_DuplicateName_init := kbE (ks := ["name"]) (ps := ["self", "name"]) (g := g1) E_c_DuplicateName_init.F (fun kV doc pm an cdv ct self ws hl => by
      match ws, hl with
      | [], e => cases e
      | [_], _ => rfl
      | _ :: _ :: _, e => cases e)
    have kv_c_TooMany_init := kbE (ks := ["most"]) (ps := ["self", "most"]) (g := g1) E_c_TooMany_init.F (fun kV doc pm an cdv ct self ws hl => by
      match ws, hl with
      | [], e => cases e
      | [_], _ => rfl
      | _ :: _ :: _, e => cases e)
    have kv_c_TooFew_init := kbE (ks := ["least"]) (ps := ["self", "least"]) (g := g1) E_c_TooFew_init.F (fun kV doc pm an cdv ct self ws hl => by
      match ws, hl with
      | [], e => cases e
      | [_], _ => rfl
      | _ :: _ :: _, e => cases e)
    have kv_c_CannotStand_init := kbE (ks := ["three", "one", "two"]) (ps := ["self", "one", "two", "three"]) (g := g3c) E_c_CannotStand_init.F (fun kV doc pm an cdv ct self ws hl => by
      match ws, hl with
      | [], e => cases e
      | [_], e => cases e
      | [_, _], e => cases e
      | [_, _, _], _ => rfl
      | _ :: _ :: _ :: _ :: _, e => cases e)
    have kv_c_Clash_init := kbE (ks := ["marks"]) (ps := ["self", "marks"]) (g := g1) E_c_Clash_init.F (fun kV doc pm an cdv ct self ws hl => by
      match ws, hl with
      | [], e => cases e
      | [_], _ => rfl
      | _ :: _ :: _, e => cases e)
    have kv_c_NotABlock_init := kbE (ks := ["lot"]) (ps := ["self", "lot"]) (g := g1) E_c_NotABlock_init.F (fun kV doc pm an cdv ct self ws hl => by
      match ws, hl with
      | [], e => cases e
      | [_], _ => rfl
      | _ :: _ :: _, e => cases e)
    have kv_c_Same_init := kbE (ks := ["name"]) (ps := ["self", "name"]) (g := g1) E_c_Same_init.F (fun kV doc pm an cdv ct self ws hl => by
      match ws, hl with
      | [], e => cases e
      | [_], _ => rfl
      | _ :: _ :: _, e => cases e)
    have kv_c_NoTable_init := kbE (ks := ["found", "why"]) (ps := ["self", "why", "found"]) (g := g2) E_c_NoTable_init.F (fun kV doc pm an cdv ct self ws hl => by
      match ws, hl with
      | [], e => cases e
      | [_], e => cases e
      | [_, _], _ => rfl
      | _ :: _ :: _ :: _, e => cases e)
    have kv_c_Taken_init := kbE (ks := ["name"]) (ps := ["self", "name"]) (g := g1) E_c_Taken_init.F (fun kV doc pm an cdv ct self ws hl => by
      match ws, hl with
      | [], e => cases e
      | [_], _ => rfl
      | _ :: _ :: _, e => cases e)
    have kv_c_InUse_init := kbE (ks := ["mark"]) (ps := ["self", "mark"]) (g := g1) E_c_InUse_init.F (fun kV doc pm an cdv ct self ws hl => by
      match ws, hl with
      | [], e => cases e
      | [_], _ => rfl
      | _ :: _ :: _, e => cases e)
    have kv_c_UnknownName_init := kbE (ks := ["name"]) (ps := ["self", "name"]) (g := g1) E_c_UnknownName_init.F (fun kV doc pm an cdv ct self ws hl => by
      match ws, hl with
      | [], e => cases e
      | [_], _ => rfl
      | _ :: _ :: _, e => cases e)
    have kv_c_UnknownFind_init := kbE (ks := ["name"]) (ps := ["self", "name"]) (g := g1) E_c_UnknownFind_init.F (fun kV doc pm an cdv ct self ws hl => by
      match ws, hl with
      | [], e => cases e
      | [_], _ => rfl
      | _ :: _ :: _, e => cases e)
    have kv_c_UnknownNode_init := kbE (ks := ["lot"]) (ps := ["self", "lot"]) (g := g1) E_c_UnknownNode_init.F (fun kV doc pm an cdv ct self ws hl => by
      match ws, hl with
      | [], e => cases e
      | [_], _ => rfl
      | _ :: _ :: _, e => cases e)
    have kv_c_UnknownKept_init := kbE (ks := ["at"]) (ps := ["self", "at"]) (g := g1) E_c_UnknownKept_init.F (fun kV doc pm an cdv ct self ws hl => by
      match ws, hl with
      | [], e => cases e
      | [_], _ => rfl
      | _ :: _ :: _, e => cases e)
    refine ⟨_, (pss_one (ps_ret (pe_lst (pa_cons (pe_newVK (g := g1) (gV := g1) E_c_InvalidName_init.g E_c_InvalidName_init.ini E_c_InvalidName_init.tI G_c_InvalidName_init (hr.mono (by decide)) kv_c_InvalidName_init g1_rel (by rfl) E_c_InvalidName_init.m (pk_cons (pv 0) pk_nil)) (pa_cons (pe_newVK (g := g1) (gV := g1) E_c_InvalidLot_init.g E_c_InvalidLot_init.ini E_c_InvalidLot_init.tI G_c_InvalidLot_init (hr.mono (by decide)) kv_c_InvalidLot_init g1_rel (by rfl) E_c_InvalidLot_init.m (pk_cons (pv 0) pk_nil)) (pa_cons (pe_newVK (g := g1) (gV := g1) E_c_InvalidFind_init.g E_c_InvalidFind_init.ini E_c_InvalidFind_init.tI G_c_InvalidFind_init (hr.mono (by decide)) kv_c_InvalidFind_init g1_rel (by rfl) E_c_InvalidFind_init.m (pk_cons (pv 0) pk_nil)) (pa_cons (pe_newVK (g := g1) (gV := g1) E_c_InvalidWord_init.g E_c_InvalidWord_init.ini E_c_InvalidWord_init.tI G_c_InvalidWord_init (hr.mono (by decide)) kv_c_InvalidWord_init g1_rel (by rfl) E_c_InvalidWord_init.m (pk_cons (pv 0) pk_nil)) (pa_cons (pe_newVK (g := g1) (gV := g1) E_c_InvalidFact_init.g E_c_InvalidFact_init.ini E_c_InvalidFact_init.tI G_c_InvalidFact_init (hr.mono (by decide)) kv_c_InvalidFact_init g1_rel (by rfl) E_c_InvalidFact_init.m (pk_cons (pv 0) pk_nil)) (pa_cons (pe_newVK (g := g1) (gV := g1) E_c_InvalidOrder_init.g E_c_InvalidOrder_init.ini E_c_InvalidOrder_init.tI G_c_InvalidOrder_init (hr.mono (by decide)) kv_c_InvalidOrder_init g1_rel (by rfl) E_c_InvalidOrder_init.m (pk_cons (pv 0) pk_nil)) (pa_cons (pe_newVK (g := g1) (gV := g1) E_c_InvalidKind_init.g E_c_InvalidKind_init.ini E_c_InvalidKind_init.tI G_c_InvalidKind_init (hr.mono (by decide)) kv_c_InvalidKind_init g1_rel (by rfl) E_c_InvalidKind_init.m (pk_cons (pv 0) pk_nil)) (pa_cons (pe_newVK (g := g1) (gV := g1) E_c_InvalidPair_init.g E_c_InvalidPair_init.ini E_c_InvalidPair_init.tI G_c_InvalidPair_init (hr.mono (by decide)) kv_c_InvalidPair_init g1_rel (by rfl) E_c_InvalidPair_init.m (pk_cons (pv 0) pk_nil)) (pa_cons (pe_newVK (g := g1) (gV := g1) E_c_InvalidDeed_init.g E_c_InvalidDeed_init.ini E_c_InvalidDeed_init.tI G_c_InvalidDeed_init (hr.mono (by decide)) kv_c_InvalidDeed_init g1_rel (by rfl) E_c_InvalidDeed_init.m (pk_cons (pv 0) pk_nil)) (pa_cons (pe_newVK (g := g2) (gV := g2) E_c_InvalidText_init.g E_c_InvalidText_init.ini E_c_InvalidText_init.tI G_c_InvalidText_init (hr.mono (by decide)) kv_c_InvalidText_init g2_rel (by rfl) E_c_InvalidText_init.m (pk_cons (pv 1) (pk_cons (pv 0) pk_nil))) (pa_cons (pe_newVK (g := g1) (gV := g1) E_c_InvalidNumber_init.g E_c_InvalidNumber_init.ini E_c_InvalidNumber_init.tI G_c_InvalidNumber_init (hr.mono (by decide)) kv_c_InvalidNumber_init g1_rel (by rfl) E_c_InvalidNumber_init.m (pk_cons (pv 0) pk_nil)) (pa_cons (pe_newV0 E_c_InvalidStatement_init.g E_c_InvalidStatement_init.ini E_c_InvalidStatement_init.tI G_c_InvalidStatement_init (hr.mono (by decide)) E_c_InvalidStatement_init.b (by rfl) E_c_InvalidStatement_init.m) (pa_cons (pe_newV0 E_c_InvalidQuestion_init.g E_c_InvalidQuestion_init.ini E_c_InvalidQuestion_init.tI G_c_InvalidQuestion_init (hr.mono (by decide)) E_c_InvalidQuestion_init.b (by rfl) E_c_InvalidQuestion_init.m) (pa_cons (pe_newV0 E_c_InvalidClaim_init.g E_c_InvalidClaim_init.ini E_c_InvalidClaim_init.tI G_c_InvalidClaim_init (hr.mono (by decide)) E_c_InvalidClaim_init.b (by rfl) E_c_InvalidClaim_init.m) (pa_cons (pe_newVK (g := g1) (gV := g1) E_c_InvalidTimes_init.g E_c_InvalidTimes_init.ini E_c_InvalidTimes_init.tI G_c_InvalidTimes_init (hr.mono (by decide)) kv_c_InvalidTimes_init g1_rel (by rfl) E_c_InvalidTimes_init.m (pk_cons (pv 0) pk_nil)) (pa_cons (pe_newVK (g := g1) (gV := g1) E_c_InvalidWeights_init.g E_c_InvalidWeights_init.ini E_c_InvalidWeights_init.tI G_c_InvalidWeights_init (hr.mono (by decide)) kv_c_InvalidWeights_init g1_rel (by rfl) E_c_InvalidWeights_init.m (pk_cons (pv 0) pk_nil)) (pa_cons (pe_newVK (g := g1) (gV := g1) E_c_DuplicateName_init.g E_c_DuplicateName_init.ini E_c_DuplicateName_init.tI G_c_DuplicateName_init (hr.mono (by decide)) kv_c_DuplicateName_init g1_rel (by rfl) E_c_DuplicateName_init.m (pk_cons (pv 0) pk_nil)) (pa_cons (pe_newVK (g := g1) (gV := g1) E_c_TooMany_init.g E_c_TooMany_init.ini E_c_TooMany_init.tI G_c_TooMany_init (hr.mono (by decide)) kv_c_TooMany_init g1_rel (by rfl) E_c_TooMany_init.m (pk_cons (pv 0) pk_nil)) (pa_cons (pe_newVK (g := g1) (gV := g1) E_c_TooFew_init.g E_c_TooFew_init.ini E_c_TooFew_init.tI G_c_TooFew_init (hr.mono (by decide)) kv_c_TooFew_init g1_rel (by rfl) E_c_TooFew_init.m (pk_cons (pv 0) pk_nil)) (pa_cons (pe_newVK (g := g3c) (gV := g3c) E_c_CannotStand_init.g E_c_CannotStand_init.ini E_c_CannotStand_init.tI G_c_CannotStand_init (hr.mono (by decide)) kv_c_CannotStand_init g3c_rel (by rfl) E_c_CannotStand_init.m (pk_cons (pv 2) (pk_cons (pv 0) (pk_cons (pv 1) pk_nil)))) (pa_cons (pe_newV0 E_c_Standing_init.g E_c_Standing_init.ini E_c_Standing_init.tI G_c_Standing_init (hr.mono (by decide)) E_c_Standing_init.b (by rfl) E_c_Standing_init.m) (pa_cons (pe_newVK (g := g1) (gV := g1) E_c_Clash_init.g E_c_Clash_init.ini E_c_Clash_init.tI G_c_Clash_init (hr.mono (by decide)) kv_c_Clash_init g1_rel (by rfl) E_c_Clash_init.m (pk_cons (pv 0) pk_nil)) (pa_cons (pe_newV0 E_c_NotFitting_init.g E_c_NotFitting_init.ini E_c_NotFitting_init.tI G_c_NotFitting_init (hr.mono (by decide)) E_c_NotFitting_init.b (by rfl) E_c_NotFitting_init.m) (pa_cons (pe_newV0 E_c_NotShown_init.g E_c_NotShown_init.ini E_c_NotShown_init.tI G_c_NotShown_init (hr.mono (by decide)) E_c_NotShown_init.b (by rfl) E_c_NotShown_init.m) (pa_cons (pe_newVK (g := g1) (gV := g1) E_c_NotABlock_init.g E_c_NotABlock_init.ini E_c_NotABlock_init.tI G_c_NotABlock_init (hr.mono (by decide)) kv_c_NotABlock_init g1_rel (by rfl) E_c_NotABlock_init.m (pk_cons (pv 0) pk_nil)) (pa_cons (pe_newV0 E_c_OtherFinds_init.g E_c_OtherFinds_init.ini E_c_OtherFinds_init.tI G_c_OtherFinds_init (hr.mono (by decide)) E_c_OtherFinds_init.b (by rfl) E_c_OtherFinds_init.m) (pa_cons (pe_newVK (g := g1) (gV := g1) E_c_Same_init.g E_c_Same_init.ini E_c_Same_init.tI G_c_Same_init (hr.mono (by decide)) kv_c_Same_init g1_rel (by rfl) E_c_Same_init.m (pk_cons (pv 0) pk_nil)) (pa_cons (pe_newVK (g := g2) (gV := g2) E_c_NoTable_init.g E_c_NoTable_init.ini E_c_NoTable_init.tI G_c_NoTable_init (hr.mono (by decide)) kv_c_NoTable_init g2_rel (by rfl) E_c_NoTable_init.m (pk_cons (pv 1) (pk_cons (pv 0) pk_nil))) (pa_cons (pe_newVK (g := g1) (gV := g1) E_c_Taken_init.g E_c_Taken_init.ini E_c_Taken_init.tI G_c_Taken_init (hr.mono (by decide)) kv_c_Taken_init g1_rel (by rfl) E_c_Taken_init.m (pk_cons (pv 0) pk_nil)) (pa_cons (pe_newVK (g := g1) (gV := g1) E_c_InUse_init.g E_c_InUse_init.ini E_c_InUse_init.tI G_c_InUse_init (hr.mono (by decide)) kv_c_InUse_init g1_rel (by rfl) E_c_InUse_init.m (pk_cons (pv 0) pk_nil)) (pa_cons (pe_newV0 E_c_NoFinds_init.g E_c_NoFinds_init.ini E_c_NoFinds_init.tI G_c_NoFinds_init (hr.mono (by decide)) E_c_NoFinds_init.b (by rfl) E_c_NoFinds_init.m) (pa_cons (pe_newVK (g := g1) (gV := g1) E_c_UnknownName_init.g E_c_UnknownName_init.ini E_c_UnknownName_init.tI G_c_UnknownName_init (hr.mono (by decide)) kv_c_UnknownName_init g1_rel (by rfl) E_c_UnknownName_init.m (pk_cons (pv 0) pk_nil)) (pa_cons (pe_newVK (g := g1) (gV := g1) E_c_UnknownFind_init.g E_c_UnknownFind_init.ini E_c_UnknownFind_init.tI G_c_UnknownFind_init (hr.mono (by decide)) kv_c_UnknownFind_init g1_rel (by rfl) E_c_UnknownFind_init.m (pk_cons (pv 0) pk_nil)) (pa_cons (pe_newVK (g := g1) (gV := g1) E_c_UnknownNode_init.g E_c_UnknownNode_init.ini E_c_UnknownNode_init.tI G_c_UnknownNode_init (hr.mono (by decide)) kv_c_UnknownNode_init g1_rel (by rfl) E_c_UnknownNode_init.m (pk_cons (pv 0) pk_nil)) (pa_cons (pe_newVK (g := g1) (gV := g1) E_c_UnknownKept_init.g E_c_UnknownKept_init.ini E_c_UnknownKept_init.tI G_c_UnknownKept_init (hr.mono (by decide)) kv_c_UnknownKept_init g1_rel (by rfl) E_c_UnknownKept_init.m (pk_cons (pv 0) pk_nil)) (pa_cons (pe_newV0 E_c_NothingLeft_init.g E_c_NothingLeft_init.ini E_c_NothingLeft_init.tI G_c_NothingLeft_init (hr.mono (by decide)) E_c_NothingLeft_init.b (by rfl) E_c_NothingLeft_init.m) pa_nil))))))))))))))))))))))))))))))))))))))), ?_⟩
    have acc := ExAll.nil (K := K) (mg := mg) (H := H) (dx := dx) (dy := dy) (dz := dz)
    refine ⟨_, rfl, ?_⟩
    refine newV_of (ds := [dx]) (fl := ["value"]) E_c_InvalidName_init (by decide +kernel) (by decide +kernel) (.cons rx .nil) (fun d hd => by simp only [List.mem_cons, List.not_mem_nil, or_false] at hd; rw [hd]; exact lx) rfl (by decide) fun v0 H0 s e => ?_
    replace acc : ExAll K mg H0 dx dy dz [.ref v0] [Str.ofString "InvalidName"] := acc.snoc s e (by rw [show (fldsN (Str.ofString "InvalidName")).length = 1 by decide +kernel]; rfl)
    have rx := rx.to s
    have ry := ry.to s
    have rz := rz.to s
    have t0 := s
    clear s e
    refine ⟨_, rfl, ?_⟩
    refine newV_of (ds := [dx]) (fl := ["at"]) E_c_InvalidLot_init (by decide +kernel) (by decide +kernel) (.cons rx .nil) (fun d hd => by simp only [List.mem_cons, List.not_mem_nil, or_false] at hd; rw [hd]; exact lx) rfl (by decide) fun v1 H1 s e => ?_
    replace acc : ExAll K mg H1 dx dy dz [.ref v0, .ref v1] [Str.ofString "InvalidName", Str.ofString "InvalidLot"] := acc.snoc s e (by rw [show (fldsN (Str.ofString "InvalidLot")).length = 1 by decide +kernel]; rfl)
    have rx := rx.to s
    have ry := ry.to s
    have rz := rz.to s
    have t1 := t0.trans s
    clear s e t0
    refine ⟨_, rfl, ?_⟩
    refine newV_of (ds := [dx]) (fl := ["at"]) E_c_InvalidFind_init (by decide +kernel) (by decide +kernel) (.cons rx .nil) (fun d hd => by simp only [List.mem_cons, List.not_mem_nil, or_false] at hd; rw [hd]; exact lx) rfl (by decide) fun v2 H2 s e => ?_
    replace acc : ExAll K mg H2 dx dy dz [.ref v0, .ref v1, .ref v2] [Str.ofString "InvalidName", Str.ofString "InvalidLot", Str.ofString "InvalidFind"] := acc.snoc s e (by rw [show (fldsN (Str.ofString "InvalidFind")).length = 1 by decide +kernel]; rfl)
    have rx := rx.to s
    have ry := ry.to s
    have rz := rz.to s
    have t2 := t1.trans s
    clear s e t1
    refine ⟨_, rfl, ?_⟩
    refine newV_of (ds := [dx]) (fl := ["at"]) E_c_InvalidWord_init (by decide +kernel) (by decide +kernel) (.cons rx .nil) (fun d hd => by simp only [List.mem_cons, List.not_mem_nil, or_false] at hd; rw [hd]; exact lx) rfl (by decide) fun v3 H3 s e => ?_
    replace acc : ExAll K mg H3 dx dy dz [.ref v0, .ref v1, .ref v2, .ref v3] [Str.ofString "InvalidName", Str.ofString "InvalidLot", Str.ofString "InvalidFind", Str.ofString "InvalidWord"] := acc.snoc s e (by rw [show (fldsN (Str.ofString "InvalidWord")).length = 1 by decide +kernel]; rfl)
    have rx := rx.to s
    have ry := ry.to s
    have rz := rz.to s
    have t3 := t2.trans s
    clear s e t2
    refine ⟨_, rfl, ?_⟩
    refine newV_of (ds := [dx]) (fl := ["at"]) E_c_InvalidFact_init (by decide +kernel) (by decide +kernel) (.cons rx .nil) (fun d hd => by simp only [List.mem_cons, List.not_mem_nil, or_false] at hd; rw [hd]; exact lx) rfl (by decide) fun v4 H4 s e => ?_
    replace acc : ExAll K mg H4 dx dy dz [.ref v0, .ref v1, .ref v2, .ref v3, .ref v4] [Str.ofString "InvalidName", Str.ofString "InvalidLot", Str.ofString "InvalidFind", Str.ofString "InvalidWord", Str.ofString "InvalidFact"] := acc.snoc s e (by rw [show (fldsN (Str.ofString "InvalidFact")).length = 1 by decide +kernel]; rfl)
    have rx := rx.to s
    have ry := ry.to s
    have rz := rz.to s
    have t4 := t3.trans s
    clear s e t3
    refine ⟨_, rfl, ?_⟩
    refine newV_of (ds := [dx]) (fl := ["at"]) E_c_InvalidOrder_init (by decide +kernel) (by decide +kernel) (.cons rx .nil) (fun d hd => by simp only [List.mem_cons, List.not_mem_nil, or_false] at hd; rw [hd]; exact lx) rfl (by decide) fun v5 H5 s e => ?_
    replace acc : ExAll K mg H5 dx dy dz [.ref v0, .ref v1, .ref v2, .ref v3, .ref v4, .ref v5] [Str.ofString "InvalidName", Str.ofString "InvalidLot", Str.ofString "InvalidFind", Str.ofString "InvalidWord", Str.ofString "InvalidFact", Str.ofString "InvalidOrder"] := acc.snoc s e (by rw [show (fldsN (Str.ofString "InvalidOrder")).length = 1 by decide +kernel]; rfl)
    have rx := rx.to s
    have ry := ry.to s
    have rz := rz.to s
    have t5 := t4.trans s
    clear s e t4
    refine ⟨_, rfl, ?_⟩
    refine newV_of (ds := [dx]) (fl := ["at"]) E_c_InvalidKind_init (by decide +kernel) (by decide +kernel) (.cons rx .nil) (fun d hd => by simp only [List.mem_cons, List.not_mem_nil, or_false] at hd; rw [hd]; exact lx) rfl (by decide) fun v6 H6 s e => ?_
    replace acc : ExAll K mg H6 dx dy dz [.ref v0, .ref v1, .ref v2, .ref v3, .ref v4, .ref v5, .ref v6] [Str.ofString "InvalidName", Str.ofString "InvalidLot", Str.ofString "InvalidFind", Str.ofString "InvalidWord", Str.ofString "InvalidFact", Str.ofString "InvalidOrder", Str.ofString "InvalidKind"] := acc.snoc s e (by rw [show (fldsN (Str.ofString "InvalidKind")).length = 1 by decide +kernel]; rfl)
    have rx := rx.to s
    have ry := ry.to s
    have rz := rz.to s
    have t6 := t5.trans s
    clear s e t5
    refine ⟨_, rfl, ?_⟩
    refine newV_of (ds := [dx]) (fl := ["at"]) E_c_InvalidPair_init (by decide +kernel) (by decide +kernel) (.cons rx .nil) (fun d hd => by simp only [List.mem_cons, List.not_mem_nil, or_false] at hd; rw [hd]; exact lx) rfl (by decide) fun v7 H7 s e => ?_
    replace acc : ExAll K mg H7 dx dy dz [.ref v0, .ref v1, .ref v2, .ref v3, .ref v4, .ref v5, .ref v6, .ref v7] [Str.ofString "InvalidName", Str.ofString "InvalidLot", Str.ofString "InvalidFind", Str.ofString "InvalidWord", Str.ofString "InvalidFact", Str.ofString "InvalidOrder", Str.ofString "InvalidKind", Str.ofString "InvalidPair"] := acc.snoc s e (by rw [show (fldsN (Str.ofString "InvalidPair")).length = 1 by decide +kernel]; rfl)
    have rx := rx.to s
    have ry := ry.to s
    have rz := rz.to s
    have t7 := t6.trans s
    clear s e t6
    refine ⟨_, rfl, ?_⟩
    refine newV_of (ds := [dx]) (fl := ["at"]) E_c_InvalidDeed_init (by decide +kernel) (by decide +kernel) (.cons rx .nil) (fun d hd => by simp only [List.mem_cons, List.not_mem_nil, or_false] at hd; rw [hd]; exact lx) rfl (by decide) fun v8 H8 s e => ?_
    replace acc : ExAll K mg H8 dx dy dz [.ref v0, .ref v1, .ref v2, .ref v3, .ref v4, .ref v5, .ref v6, .ref v7, .ref v8] [Str.ofString "InvalidName", Str.ofString "InvalidLot", Str.ofString "InvalidFind", Str.ofString "InvalidWord", Str.ofString "InvalidFact", Str.ofString "InvalidOrder", Str.ofString "InvalidKind", Str.ofString "InvalidPair", Str.ofString "InvalidDeed"] := acc.snoc s e (by rw [show (fldsN (Str.ofString "InvalidDeed")).length = 1 by decide +kernel]; rfl)
    have rx := rx.to s
    have ry := ry.to s
    have rz := rz.to s
    have t8 := t7.trans s
    clear s e t7
    refine ⟨_, rfl, _, rfl, ?_⟩
    refine newV_of (ds := [dx, dy]) (fl := ["line", "why"]) E_c_InvalidText_init (by decide +kernel) (by decide +kernel) (.cons rx (.cons ry .nil)) (fun d hd => by simp only [List.mem_cons, List.not_mem_nil, or_false] at hd; rcases hd with e | e <;> rw [e] <;> assumption) rfl (by decide) fun v9 H9 s e => ?_
    replace acc : ExAll K mg H9 dx dy dz [.ref v0, .ref v1, .ref v2, .ref v3, .ref v4, .ref v5, .ref v6, .ref v7, .ref v8, .ref v9] [Str.ofString "InvalidName", Str.ofString "InvalidLot", Str.ofString "InvalidFind", Str.ofString "InvalidWord", Str.ofString "InvalidFact", Str.ofString "InvalidOrder", Str.ofString "InvalidKind", Str.ofString "InvalidPair", Str.ofString "InvalidDeed", Str.ofString "InvalidText"] := acc.snoc s e (by rw [show (fldsN (Str.ofString "InvalidText")).length = 2 by decide +kernel]; rfl)
    have rx := rx.to s
    have ry := ry.to s
    have rz := rz.to s
    have t9 := t8.trans s
    clear s e t8
    refine ⟨_, rfl, ?_⟩
    refine newV_of (ds := [dx]) (fl := ["value"]) E_c_InvalidNumber_init (by decide +kernel) (by decide +kernel) (.cons rx .nil) (fun d hd => by simp only [List.mem_cons, List.not_mem_nil, or_false] at hd; rw [hd]; exact lx) rfl (by decide) fun v10 H10 s e => ?_
    replace acc : ExAll K mg H10 dx dy dz [.ref v0, .ref v1, .ref v2, .ref v3, .ref v4, .ref v5, .ref v6, .ref v7, .ref v8, .ref v9, .ref v10] [Str.ofString "InvalidName", Str.ofString "InvalidLot", Str.ofString "InvalidFind", Str.ofString "InvalidWord", Str.ofString "InvalidFact", Str.ofString "InvalidOrder", Str.ofString "InvalidKind", Str.ofString "InvalidPair", Str.ofString "InvalidDeed", Str.ofString "InvalidText", Str.ofString "InvalidNumber"] := acc.snoc s e (by rw [show (fldsN (Str.ofString "InvalidNumber")).length = 1 by decide +kernel]; rfl)
    have rx := rx.to s
    have ry := ry.to s
    have rz := rz.to s
    have t10 := t9.trans s
    clear s e t9
    refine newV_of (ds := []) (fl := []) E_c_InvalidStatement_init (by decide +kernel) (by decide +kernel) .nil (fun d hd => (List.not_mem_nil hd).elim) rfl (by decide) fun v11 H11 s e => ?_
    replace acc : ExAll K mg H11 dx dy dz [.ref v0, .ref v1, .ref v2, .ref v3, .ref v4, .ref v5, .ref v6, .ref v7, .ref v8, .ref v9, .ref v10, .ref v11] [Str.ofString "InvalidName", Str.ofString "InvalidLot", Str.ofString "InvalidFind", Str.ofString "InvalidWord", Str.ofString "InvalidFact", Str.ofString "InvalidOrder", Str.ofString "InvalidKind", Str.ofString "InvalidPair", Str.ofString "InvalidDeed", Str.ofString "InvalidText", Str.ofString "InvalidNumber", Str.ofString "InvalidStatement"] := acc.snoc s e (by rw [show (fldsN (Str.ofString "InvalidStatement")).length = 0 by decide +kernel]; rfl)
    have rx := rx.to s
    have ry := ry.to s
    have rz := rz.to s
    have t11 := t10.trans s
    clear s e t10
    refine newV_of (ds := []) (fl := []) E_c_InvalidQuestion_init (by decide +kernel) (by decide +kernel) .nil (fun d hd => (List.not_mem_nil hd).elim) rfl (by decide) fun v12 H12 s e => ?_
    replace acc : ExAll K mg H12 dx dy dz [.ref v0, .ref v1, .ref v2, .ref v3, .ref v4, .ref v5, .ref v6, .ref v7, .ref v8, .ref v9, .ref v10, .ref v11, .ref v12] [Str.ofString "InvalidName", Str.ofString "InvalidLot", Str.ofString "InvalidFind", Str.ofString "InvalidWord", Str.ofString "InvalidFact", Str.ofString "InvalidOrder", Str.ofString "InvalidKind", Str.ofString "InvalidPair", Str.ofString "InvalidDeed", Str.ofString "InvalidText", Str.ofString "InvalidNumber", Str.ofString "InvalidStatement", Str.ofString "InvalidQuestion"] := acc.snoc s e (by rw [show (fldsN (Str.ofString "InvalidQuestion")).length = 0 by decide +kernel]; rfl)
    have rx := rx.to s
    have ry := ry.to s
    have rz := rz.to s
    have t12 := t11.trans s
    clear s e t11
    refine newV_of (ds := []) (fl := []) E_c_InvalidClaim_init (by decide +kernel) (by decide +kernel) .nil (fun d hd => (List.not_mem_nil hd).elim) rfl (by decide) fun v13 H13 s e => ?_
    replace acc : ExAll K mg H13 dx dy dz [.ref v0, .ref v1, .ref v2, .ref v3, .ref v4, .ref v5, .ref v6, .ref v7, .ref v8, .ref v9, .ref v10, .ref v11, .ref v12, .ref v13] [Str.ofString "InvalidName", Str.ofString "InvalidLot", Str.ofString "InvalidFind", Str.ofString "InvalidWord", Str.ofString "InvalidFact", Str.ofString "InvalidOrder", Str.ofString "InvalidKind", Str.ofString "InvalidPair", Str.ofString "InvalidDeed", Str.ofString "InvalidText", Str.ofString "InvalidNumber", Str.ofString "InvalidStatement", Str.ofString "InvalidQuestion", Str.ofString "InvalidClaim"] := acc.snoc s e (by rw [show (fldsN (Str.ofString "InvalidClaim")).length = 0 by decide +kernel]; rfl)
    have rx := rx.to s
    have ry := ry.to s
    have rz := rz.to s
    have t13 := t12.trans s
    clear s e t12
    refine ⟨_, rfl, ?_⟩
    refine newV_of (ds := [dx]) (fl := ["name"]) E_c_InvalidTimes_init (by decide +kernel) (by decide +kernel) (.cons rx .nil) (fun d hd => by simp only [List.mem_cons, List.not_mem_nil, or_false] at hd; rw [hd]; exact lx) rfl (by decide) fun v14 H14 s e => ?_
    replace acc : ExAll K mg H14 dx dy dz [.ref v0, .ref v1, .ref v2, .ref v3, .ref v4, .ref v5, .ref v6, .ref v7, .ref v8, .ref v9, .ref v10, .ref v11, .ref v12, .ref v13, .ref v14] [Str.ofString "InvalidName", Str.ofString "InvalidLot", Str.ofString "InvalidFind", Str.ofString "InvalidWord", Str.ofString "InvalidFact", Str.ofString "InvalidOrder", Str.ofString "InvalidKind", Str.ofString "InvalidPair", Str.ofString "InvalidDeed", Str.ofString "InvalidText", Str.ofString "InvalidNumber", Str.ofString "InvalidStatement", Str.ofString "InvalidQuestion", Str.ofString "InvalidClaim", Str.ofString "InvalidTimes"] := acc.snoc s e (by rw [show (fldsN (Str.ofString "InvalidTimes")).length = 1 by decide +kernel]; rfl)
    have rx := rx.to s
    have ry := ry.to s
    have rz := rz.to s
    have t14 := t13.trans s
    clear s e t13
    refine ⟨_, rfl, ?_⟩
    refine newV_of (ds := [dx]) (fl := ["name"]) E_c_InvalidWeights_init (by decide +kernel) (by decide +kernel) (.cons rx .nil) (fun d hd => by simp only [List.mem_cons, List.not_mem_nil, or_false] at hd; rw [hd]; exact lx) rfl (by decide) fun v15 H15 s e => ?_
    replace acc : ExAll K mg H15 dx dy dz [.ref v0, .ref v1, .ref v2, .ref v3, .ref v4, .ref v5, .ref v6, .ref v7, .ref v8, .ref v9, .ref v10, .ref v11, .ref v12, .ref v13, .ref v14, .ref v15] [Str.ofString "InvalidName", Str.ofString "InvalidLot", Str.ofString "InvalidFind", Str.ofString "InvalidWord", Str.ofString "InvalidFact", Str.ofString "InvalidOrder", Str.ofString "InvalidKind", Str.ofString "InvalidPair", Str.ofString "InvalidDeed", Str.ofString "InvalidText", Str.ofString "InvalidNumber", Str.ofString "InvalidStatement", Str.ofString "InvalidQuestion", Str.ofString "InvalidClaim", Str.ofString "InvalidTimes", Str.ofString "InvalidWeights"] := acc.snoc s e (by rw [show (fldsN (Str.ofString "InvalidWeights")).length = 1 by decide +kernel]; rfl)
    have rx := rx.to s
    have ry := ry.to s
    have rz := rz.to s
    have t15 := t14.trans s
    clear s e t14
    refine ⟨_, rfl, ?_⟩
    refine newV_of (ds := [dx]) (fl := ["name"]) E_c_DuplicateName_init (by decide +kernel) (by decide +kernel) (.cons rx .nil) (fun d hd => by simp only [List.mem_cons, List.not_mem_nil, or_false] at hd; rw [hd]; exact lx) rfl (by decide) fun v16 H16 s e => ?_
    replace acc : ExAll K mg H16 dx dy dz [.ref v0, .ref v1, .ref v2, .ref v3, .ref v4, .ref v5, .ref v6, .ref v7, .ref v8, .ref v9, .ref v10, .ref v11, .ref v12, .ref v13, .ref v14, .ref v15, .ref v16] [Str.ofString "InvalidName", Str.ofString "InvalidLot", Str.ofString "InvalidFind", Str.ofString "InvalidWord", Str.ofString "InvalidFact", Str.ofString "InvalidOrder", Str.ofString "InvalidKind", Str.ofString "InvalidPair", Str.ofString "InvalidDeed", Str.ofString "InvalidText", Str.ofString "InvalidNumber", Str.ofString "InvalidStatement", Str.ofString "InvalidQuestion", Str.ofString "InvalidClaim", Str.ofString "InvalidTimes", Str.ofString "InvalidWeights", Str.ofString "DuplicateName"] := acc.snoc s e (by rw [show (fldsN (Str.ofString "DuplicateName")).length = 1 by decide +kernel]; rfl)
    have rx := rx.to s
    have ry := ry.to s
    have rz := rz.to s
    have t16 := t15.trans s
    clear s e t15
    refine ⟨_, rfl, ?_⟩
    refine newV_of (ds := [dx]) (fl := ["most"]) E_c_TooMany_init (by decide +kernel) (by decide +kernel) (.cons rx .nil) (fun d hd => by simp only [List.mem_cons, List.not_mem_nil, or_false] at hd; rw [hd]; exact lx) rfl (by decide) fun v17 H17 s e => ?_
    replace acc : ExAll K mg H17 dx dy dz [.ref v0, .ref v1, .ref v2, .ref v3, .ref v4, .ref v5, .ref v6, .ref v7, .ref v8, .ref v9, .ref v10, .ref v11, .ref v12, .ref v13, .ref v14, .ref v15, .ref v16, .ref v17] [Str.ofString "InvalidName", Str.ofString "InvalidLot", Str.ofString "InvalidFind", Str.ofString "InvalidWord", Str.ofString "InvalidFact", Str.ofString "InvalidOrder", Str.ofString "InvalidKind", Str.ofString "InvalidPair", Str.ofString "InvalidDeed", Str.ofString "InvalidText", Str.ofString "InvalidNumber", Str.ofString "InvalidStatement", Str.ofString "InvalidQuestion", Str.ofString "InvalidClaim", Str.ofString "InvalidTimes", Str.ofString "InvalidWeights", Str.ofString "DuplicateName", Str.ofString "TooMany"] := acc.snoc s e (by rw [show (fldsN (Str.ofString "TooMany")).length = 1 by decide +kernel]; rfl)
    have rx := rx.to s
    have ry := ry.to s
    have rz := rz.to s
    have t17 := t16.trans s
    clear s e t16
    refine ⟨_, rfl, ?_⟩
    refine newV_of (ds := [dx]) (fl := ["least"]) E_c_TooFew_init (by decide +kernel) (by decide +kernel) (.cons rx .nil) (fun d hd => by simp only [List.mem_cons, List.not_mem_nil, or_false] at hd; rw [hd]; exact lx) rfl (by decide) fun v18 H18 s e => ?_
    replace acc : ExAll K mg H18 dx dy dz [.ref v0, .ref v1, .ref v2, .ref v3, .ref v4, .ref v5, .ref v6, .ref v7, .ref v8, .ref v9, .ref v10, .ref v11, .ref v12, .ref v13, .ref v14, .ref v15, .ref v16, .ref v17, .ref v18] [Str.ofString "InvalidName", Str.ofString "InvalidLot", Str.ofString "InvalidFind", Str.ofString "InvalidWord", Str.ofString "InvalidFact", Str.ofString "InvalidOrder", Str.ofString "InvalidKind", Str.ofString "InvalidPair", Str.ofString "InvalidDeed", Str.ofString "InvalidText", Str.ofString "InvalidNumber", Str.ofString "InvalidStatement", Str.ofString "InvalidQuestion", Str.ofString "InvalidClaim", Str.ofString "InvalidTimes", Str.ofString "InvalidWeights", Str.ofString "DuplicateName", Str.ofString "TooMany", Str.ofString "TooFew"] := acc.snoc s e (by rw [show (fldsN (Str.ofString "TooFew")).length = 1 by decide +kernel]; rfl)
    have rx := rx.to s
    have ry := ry.to s
    have rz := rz.to s
    have t18 := t17.trans s
    clear s e t17
    refine ⟨_, rfl, _, rfl, _, rfl, ?_⟩
    refine newV_of (ds := [dx, dy, dz]) (fl := ["one", "two", "three"]) E_c_CannotStand_init (by decide +kernel) (by decide +kernel) (.cons rx (.cons ry (.cons rz .nil))) (fun d hd => by simp only [List.mem_cons, List.not_mem_nil, or_false] at hd; rcases hd with e | e | e <;> rw [e] <;> assumption) rfl (by decide) fun v19 H19 s e => ?_
    replace acc : ExAll K mg H19 dx dy dz [.ref v0, .ref v1, .ref v2, .ref v3, .ref v4, .ref v5, .ref v6, .ref v7, .ref v8, .ref v9, .ref v10, .ref v11, .ref v12, .ref v13, .ref v14, .ref v15, .ref v16, .ref v17, .ref v18, .ref v19] [Str.ofString "InvalidName", Str.ofString "InvalidLot", Str.ofString "InvalidFind", Str.ofString "InvalidWord", Str.ofString "InvalidFact", Str.ofString "InvalidOrder", Str.ofString "InvalidKind", Str.ofString "InvalidPair", Str.ofString "InvalidDeed", Str.ofString "InvalidText", Str.ofString "InvalidNumber", Str.ofString "InvalidStatement", Str.ofString "InvalidQuestion", Str.ofString "InvalidClaim", Str.ofString "InvalidTimes", Str.ofString "InvalidWeights", Str.ofString "DuplicateName", Str.ofString "TooMany", Str.ofString "TooFew", Str.ofString "CannotStand"] := acc.snoc s e (by rw [show (fldsN (Str.ofString "CannotStand")).length = 3 by decide +kernel]; rfl)
    have rx := rx.to s
    have ry := ry.to s
    have rz := rz.to s
    have t19 := t18.trans s
    clear s e t18
    refine newV_of (ds := []) (fl := []) E_c_Standing_init (by decide +kernel) (by decide +kernel) .nil (fun d hd => (List.not_mem_nil hd).elim) rfl (by decide) fun v20 H20 s e => ?_
    replace acc : ExAll K mg H20 dx dy dz [.ref v0, .ref v1, .ref v2, .ref v3, .ref v4, .ref v5, .ref v6, .ref v7, .ref v8, .ref v9, .ref v10, .ref v11, .ref v12, .ref v13, .ref v14, .ref v15, .ref v16, .ref v17, .ref v18, .ref v19, .ref v20] [Str.ofString "InvalidName", Str.ofString "InvalidLot", Str.ofString "InvalidFind", Str.ofString "InvalidWord", Str.ofString "InvalidFact", Str.ofString "InvalidOrder", Str.ofString "InvalidKind", Str.ofString "InvalidPair", Str.ofString "InvalidDeed", Str.ofString "InvalidText", Str.ofString "InvalidNumber", Str.ofString "InvalidStatement", Str.ofString "InvalidQuestion", Str.ofString "InvalidClaim", Str.ofString "InvalidTimes", Str.ofString "InvalidWeights", Str.ofString "DuplicateName", Str.ofString "TooMany", Str.ofString "TooFew", Str.ofString "CannotStand", Str.ofString "Standing"] := acc.snoc s e (by rw [show (fldsN (Str.ofString "Standing")).length = 0 by decide +kernel]; rfl)
    have rx := rx.to s
    have ry := ry.to s
    have rz := rz.to s
    have t20 := t19.trans s
    clear s e t19
    refine ⟨_, rfl, ?_⟩
    refine newV_of (ds := [dx]) (fl := ["marks"]) E_c_Clash_init (by decide +kernel) (by decide +kernel) (.cons rx .nil) (fun d hd => by simp only [List.mem_cons, List.not_mem_nil, or_false] at hd; rw [hd]; exact lx) rfl (by decide) fun v21 H21 s e => ?_
    replace acc : ExAll K mg H21 dx dy dz [.ref v0, .ref v1, .ref v2, .ref v3, .ref v4, .ref v5, .ref v6, .ref v7, .ref v8, .ref v9, .ref v10, .ref v11, .ref v12, .ref v13, .ref v14, .ref v15, .ref v16, .ref v17, .ref v18, .ref v19, .ref v20, .ref v21] [Str.ofString "InvalidName", Str.ofString "InvalidLot", Str.ofString "InvalidFind", Str.ofString "InvalidWord", Str.ofString "InvalidFact", Str.ofString "InvalidOrder", Str.ofString "InvalidKind", Str.ofString "InvalidPair", Str.ofString "InvalidDeed", Str.ofString "InvalidText", Str.ofString "InvalidNumber", Str.ofString "InvalidStatement", Str.ofString "InvalidQuestion", Str.ofString "InvalidClaim", Str.ofString "InvalidTimes", Str.ofString "InvalidWeights", Str.ofString "DuplicateName", Str.ofString "TooMany", Str.ofString "TooFew", Str.ofString "CannotStand", Str.ofString "Standing", Str.ofString "Clash"] := acc.snoc s e (by rw [show (fldsN (Str.ofString "Clash")).length = 1 by decide +kernel]; rfl)
    have rx := rx.to s
    have ry := ry.to s
    have rz := rz.to s
    have t21 := t20.trans s
    clear s e t20
    refine newV_of (ds := []) (fl := []) E_c_NotFitting_init (by decide +kernel) (by decide +kernel) .nil (fun d hd => (List.not_mem_nil hd).elim) rfl (by decide) fun v22 H22 s e => ?_
    replace acc : ExAll K mg H22 dx dy dz [.ref v0, .ref v1, .ref v2, .ref v3, .ref v4, .ref v5, .ref v6, .ref v7, .ref v8, .ref v9, .ref v10, .ref v11, .ref v12, .ref v13, .ref v14, .ref v15, .ref v16, .ref v17, .ref v18, .ref v19, .ref v20, .ref v21, .ref v22] [Str.ofString "InvalidName", Str.ofString "InvalidLot", Str.ofString "InvalidFind", Str.ofString "InvalidWord", Str.ofString "InvalidFact", Str.ofString "InvalidOrder", Str.ofString "InvalidKind", Str.ofString "InvalidPair", Str.ofString "InvalidDeed", Str.ofString "InvalidText", Str.ofString "InvalidNumber", Str.ofString "InvalidStatement", Str.ofString "InvalidQuestion", Str.ofString "InvalidClaim", Str.ofString "InvalidTimes", Str.ofString "InvalidWeights", Str.ofString "DuplicateName", Str.ofString "TooMany", Str.ofString "TooFew", Str.ofString "CannotStand", Str.ofString "Standing", Str.ofString "Clash", Str.ofString "NotFitting"] := acc.snoc s e (by rw [show (fldsN (Str.ofString "NotFitting")).length = 0 by decide +kernel]; rfl)
    have rx := rx.to s
    have ry := ry.to s
    have rz := rz.to s
    have t22 := t21.trans s
    clear s e t21
    refine newV_of (ds := []) (fl := []) E_c_NotShown_init (by decide +kernel) (by decide +kernel) .nil (fun d hd => (List.not_mem_nil hd).elim) rfl (by decide) fun v23 H23 s e => ?_
    replace acc : ExAll K mg H23 dx dy dz [.ref v0, .ref v1, .ref v2, .ref v3, .ref v4, .ref v5, .ref v6, .ref v7, .ref v8, .ref v9, .ref v10, .ref v11, .ref v12, .ref v13, .ref v14, .ref v15, .ref v16, .ref v17, .ref v18, .ref v19, .ref v20, .ref v21, .ref v22, .ref v23] [Str.ofString "InvalidName", Str.ofString "InvalidLot", Str.ofString "InvalidFind", Str.ofString "InvalidWord", Str.ofString "InvalidFact", Str.ofString "InvalidOrder", Str.ofString "InvalidKind", Str.ofString "InvalidPair", Str.ofString "InvalidDeed", Str.ofString "InvalidText", Str.ofString "InvalidNumber", Str.ofString "InvalidStatement", Str.ofString "InvalidQuestion", Str.ofString "InvalidClaim", Str.ofString "InvalidTimes", Str.ofString "InvalidWeights", Str.ofString "DuplicateName", Str.ofString "TooMany", Str.ofString "TooFew", Str.ofString "CannotStand", Str.ofString "Standing", Str.ofString "Clash", Str.ofString "NotFitting", Str.ofString "NotShown"] := acc.snoc s e (by rw [show (fldsN (Str.ofString "NotShown")).length = 0 by decide +kernel]; rfl)
    have rx := rx.to s
    have ry := ry.to s
    have rz := rz.to s
    have t23 := t22.trans s
    clear s e t22
    refine ⟨_, rfl, ?_⟩
    refine newV_of (ds := [dx]) (fl := ["lot"]) E_c_NotABlock_init (by decide +kernel) (by decide +kernel) (.cons rx .nil) (fun d hd => by simp only [List.mem_cons, List.not_mem_nil, or_false] at hd; rw [hd]; exact lx) rfl (by decide) fun v24 H24 s e => ?_
    replace acc : ExAll K mg H24 dx dy dz [.ref v0, .ref v1, .ref v2, .ref v3, .ref v4, .ref v5, .ref v6, .ref v7, .ref v8, .ref v9, .ref v10, .ref v11, .ref v12, .ref v13, .ref v14, .ref v15, .ref v16, .ref v17, .ref v18, .ref v19, .ref v20, .ref v21, .ref v22, .ref v23, .ref v24] [Str.ofString "InvalidName", Str.ofString "InvalidLot", Str.ofString "InvalidFind", Str.ofString "InvalidWord", Str.ofString "InvalidFact", Str.ofString "InvalidOrder", Str.ofString "InvalidKind", Str.ofString "InvalidPair", Str.ofString "InvalidDeed", Str.ofString "InvalidText", Str.ofString "InvalidNumber", Str.ofString "InvalidStatement", Str.ofString "InvalidQuestion", Str.ofString "InvalidClaim", Str.ofString "InvalidTimes", Str.ofString "InvalidWeights", Str.ofString "DuplicateName", Str.ofString "TooMany", Str.ofString "TooFew", Str.ofString "CannotStand", Str.ofString "Standing", Str.ofString "Clash", Str.ofString "NotFitting", Str.ofString "NotShown", Str.ofString "NotABlock"] := acc.snoc s e (by rw [show (fldsN (Str.ofString "NotABlock")).length = 1 by decide +kernel]; rfl)
    have rx := rx.to s
    have ry := ry.to s
    have rz := rz.to s
    have t24 := t23.trans s
    clear s e t23
    refine newV_of (ds := []) (fl := []) E_c_OtherFinds_init (by decide +kernel) (by decide +kernel) .nil (fun d hd => (List.not_mem_nil hd).elim) rfl (by decide) fun v25 H25 s e => ?_
    replace acc : ExAll K mg H25 dx dy dz [.ref v0, .ref v1, .ref v2, .ref v3, .ref v4, .ref v5, .ref v6, .ref v7, .ref v8, .ref v9, .ref v10, .ref v11, .ref v12, .ref v13, .ref v14, .ref v15, .ref v16, .ref v17, .ref v18, .ref v19, .ref v20, .ref v21, .ref v22, .ref v23, .ref v24, .ref v25] [Str.ofString "InvalidName", Str.ofString "InvalidLot", Str.ofString "InvalidFind", Str.ofString "InvalidWord", Str.ofString "InvalidFact", Str.ofString "InvalidOrder", Str.ofString "InvalidKind", Str.ofString "InvalidPair", Str.ofString "InvalidDeed", Str.ofString "InvalidText", Str.ofString "InvalidNumber", Str.ofString "InvalidStatement", Str.ofString "InvalidQuestion", Str.ofString "InvalidClaim", Str.ofString "InvalidTimes", Str.ofString "InvalidWeights", Str.ofString "DuplicateName", Str.ofString "TooMany", Str.ofString "TooFew", Str.ofString "CannotStand", Str.ofString "Standing", Str.ofString "Clash", Str.ofString "NotFitting", Str.ofString "NotShown", Str.ofString "NotABlock", Str.ofString "OtherFinds"] := acc.snoc s e (by rw [show (fldsN (Str.ofString "OtherFinds")).length = 0 by decide +kernel]; rfl)
    have rx := rx.to s
    have ry := ry.to s
    have rz := rz.to s
    have t25 := t24.trans s
    clear s e t24
    refine ⟨_, rfl, ?_⟩
    refine newV_of (ds := [dx]) (fl := ["name"]) E_c_Same_init (by decide +kernel) (by decide +kernel) (.cons rx .nil) (fun d hd => by simp only [List.mem_cons, List.not_mem_nil, or_false] at hd; rw [hd]; exact lx) rfl (by decide) fun v26 H26 s e => ?_
    replace acc : ExAll K mg H26 dx dy dz [.ref v0, .ref v1, .ref v2, .ref v3, .ref v4, .ref v5, .ref v6, .ref v7, .ref v8, .ref v9, .ref v10, .ref v11, .ref v12, .ref v13, .ref v14, .ref v15, .ref v16, .ref v17, .ref v18, .ref v19, .ref v20, .ref v21, .ref v22, .ref v23, .ref v24, .ref v25, .ref v26] [Str.ofString "InvalidName", Str.ofString "InvalidLot", Str.ofString "InvalidFind", Str.ofString "InvalidWord", Str.ofString "InvalidFact", Str.ofString "InvalidOrder", Str.ofString "InvalidKind", Str.ofString "InvalidPair", Str.ofString "InvalidDeed", Str.ofString "InvalidText", Str.ofString "InvalidNumber", Str.ofString "InvalidStatement", Str.ofString "InvalidQuestion", Str.ofString "InvalidClaim", Str.ofString "InvalidTimes", Str.ofString "InvalidWeights", Str.ofString "DuplicateName", Str.ofString "TooMany", Str.ofString "TooFew", Str.ofString "CannotStand", Str.ofString "Standing", Str.ofString "Clash", Str.ofString "NotFitting", Str.ofString "NotShown", Str.ofString "NotABlock", Str.ofString "OtherFinds", Str.ofString "Same"] := acc.snoc s e (by rw [show (fldsN (Str.ofString "Same")).length = 1 by decide +kernel]; rfl)
    have rx := rx.to s
    have ry := ry.to s
    have rz := rz.to s
    have t26 := t25.trans s
    clear s e t25
    refine ⟨_, rfl, _, rfl, ?_⟩
    refine newV_of (ds := [dx, dy]) (fl := ["why", "found"]) E_c_NoTable_init (by decide +kernel) (by decide +kernel) (.cons rx (.cons ry .nil)) (fun d hd => by simp only [List.mem_cons, List.not_mem_nil, or_false] at hd; rcases hd with e | e <;> rw [e] <;> assumption) rfl (by decide) fun v27 H27 s e => ?_
    replace acc : ExAll K mg H27 dx dy dz [.ref v0, .ref v1, .ref v2, .ref v3, .ref v4, .ref v5, .ref v6, .ref v7, .ref v8, .ref v9, .ref v10, .ref v11, .ref v12, .ref v13, .ref v14, .ref v15, .ref v16, .ref v17, .ref v18, .ref v19, .ref v20, .ref v21, .ref v22, .ref v23, .ref v24, .ref v25, .ref v26, .ref v27] [Str.ofString "InvalidName", Str.ofString "InvalidLot", Str.ofString "InvalidFind", Str.ofString "InvalidWord", Str.ofString "InvalidFact", Str.ofString "InvalidOrder", Str.ofString "InvalidKind", Str.ofString "InvalidPair", Str.ofString "InvalidDeed", Str.ofString "InvalidText", Str.ofString "InvalidNumber", Str.ofString "InvalidStatement", Str.ofString "InvalidQuestion", Str.ofString "InvalidClaim", Str.ofString "InvalidTimes", Str.ofString "InvalidWeights", Str.ofString "DuplicateName", Str.ofString "TooMany", Str.ofString "TooFew", Str.ofString "CannotStand", Str.ofString "Standing", Str.ofString "Clash", Str.ofString "NotFitting", Str.ofString "NotShown", Str.ofString "NotABlock", Str.ofString "OtherFinds", Str.ofString "Same", Str.ofString "NoTable"] := acc.snoc s e (by rw [show (fldsN (Str.ofString "NoTable")).length = 2 by decide +kernel]; rfl)
    have rx := rx.to s
    have ry := ry.to s
    have rz := rz.to s
    have t27 := t26.trans s
    clear s e t26
    refine ⟨_, rfl, ?_⟩
    refine newV_of (ds := [dx]) (fl := ["name"]) E_c_Taken_init (by decide +kernel) (by decide +kernel) (.cons rx .nil) (fun d hd => by simp only [List.mem_cons, List.not_mem_nil, or_false] at hd; rw [hd]; exact lx) rfl (by decide) fun v28 H28 s e => ?_
    replace acc : ExAll K mg H28 dx dy dz [.ref v0, .ref v1, .ref v2, .ref v3, .ref v4, .ref v5, .ref v6, .ref v7, .ref v8, .ref v9, .ref v10, .ref v11, .ref v12, .ref v13, .ref v14, .ref v15, .ref v16, .ref v17, .ref v18, .ref v19, .ref v20, .ref v21, .ref v22, .ref v23, .ref v24, .ref v25, .ref v26, .ref v27, .ref v28] [Str.ofString "InvalidName", Str.ofString "InvalidLot", Str.ofString "InvalidFind", Str.ofString "InvalidWord", Str.ofString "InvalidFact", Str.ofString "InvalidOrder", Str.ofString "InvalidKind", Str.ofString "InvalidPair", Str.ofString "InvalidDeed", Str.ofString "InvalidText", Str.ofString "InvalidNumber", Str.ofString "InvalidStatement", Str.ofString "InvalidQuestion", Str.ofString "InvalidClaim", Str.ofString "InvalidTimes", Str.ofString "InvalidWeights", Str.ofString "DuplicateName", Str.ofString "TooMany", Str.ofString "TooFew", Str.ofString "CannotStand", Str.ofString "Standing", Str.ofString "Clash", Str.ofString "NotFitting", Str.ofString "NotShown", Str.ofString "NotABlock", Str.ofString "OtherFinds", Str.ofString "Same", Str.ofString "NoTable", Str.ofString "Taken"] := acc.snoc s e (by rw [show (fldsN (Str.ofString "Taken")).length = 1 by decide +kernel]; rfl)
    have rx := rx.to s
    have ry := ry.to s
    have rz := rz.to s
    have t28 := t27.trans s
    clear s e t27
    refine ⟨_, rfl, ?_⟩
    refine newV_of (ds := [dx]) (fl := ["mark"]) E_c_InUse_init (by decide +kernel) (by decide +kernel) (.cons rx .nil) (fun d hd => by simp only [List.mem_cons, List.not_mem_nil, or_false] at hd; rw [hd]; exact lx) rfl (by decide) fun v29 H29 s e => ?_
    replace acc : ExAll K mg H29 dx dy dz [.ref v0, .ref v1, .ref v2, .ref v3, .ref v4, .ref v5, .ref v6, .ref v7, .ref v8, .ref v9, .ref v10, .ref v11, .ref v12, .ref v13, .ref v14, .ref v15, .ref v16, .ref v17, .ref v18, .ref v19, .ref v20, .ref v21, .ref v22, .ref v23, .ref v24, .ref v25, .ref v26, .ref v27, .ref v28, .ref v29] [Str.ofString "InvalidName", Str.ofString "InvalidLot", Str.ofString "InvalidFind", Str.ofString "InvalidWord", Str.ofString "InvalidFact", Str.ofString "InvalidOrder", Str.ofString "InvalidKind", Str.ofString "InvalidPair", Str.ofString "InvalidDeed", Str.ofString "InvalidText", Str.ofString "InvalidNumber", Str.ofString "InvalidStatement", Str.ofString "InvalidQuestion", Str.ofString "InvalidClaim", Str.ofString "InvalidTimes", Str.ofString "InvalidWeights", Str.ofString "DuplicateName", Str.ofString "TooMany", Str.ofString "TooFew", Str.ofString "CannotStand", Str.ofString "Standing", Str.ofString "Clash", Str.ofString "NotFitting", Str.ofString "NotShown", Str.ofString "NotABlock", Str.ofString "OtherFinds", Str.ofString "Same", Str.ofString "NoTable", Str.ofString "Taken", Str.ofString "InUse"] := acc.snoc s e (by rw [show (fldsN (Str.ofString "InUse")).length = 1 by decide +kernel]; rfl)
    have rx := rx.to s
    have ry := ry.to s
    have rz := rz.to s
    have t29 := t28.trans s
    clear s e t28
    refine newV_of (ds := []) (fl := []) E_c_NoFinds_init (by decide +kernel) (by decide +kernel) .nil (fun d hd => (List.not_mem_nil hd).elim) rfl (by decide) fun v30 H30 s e => ?_
    replace acc : ExAll K mg H30 dx dy dz [.ref v0, .ref v1, .ref v2, .ref v3, .ref v4, .ref v5, .ref v6, .ref v7, .ref v8, .ref v9, .ref v10, .ref v11, .ref v12, .ref v13, .ref v14, .ref v15, .ref v16, .ref v17, .ref v18, .ref v19, .ref v20, .ref v21, .ref v22, .ref v23, .ref v24, .ref v25, .ref v26, .ref v27, .ref v28, .ref v29, .ref v30] [Str.ofString "InvalidName", Str.ofString "InvalidLot", Str.ofString "InvalidFind", Str.ofString "InvalidWord", Str.ofString "InvalidFact", Str.ofString "InvalidOrder", Str.ofString "InvalidKind", Str.ofString "InvalidPair", Str.ofString "InvalidDeed", Str.ofString "InvalidText", Str.ofString "InvalidNumber", Str.ofString "InvalidStatement", Str.ofString "InvalidQuestion", Str.ofString "InvalidClaim", Str.ofString "InvalidTimes", Str.ofString "InvalidWeights", Str.ofString "DuplicateName", Str.ofString "TooMany", Str.ofString "TooFew", Str.ofString "CannotStand", Str.ofString "Standing", Str.ofString "Clash", Str.ofString "NotFitting", Str.ofString "NotShown", Str.ofString "NotABlock", Str.ofString "OtherFinds", Str.ofString "Same", Str.ofString "NoTable", Str.ofString "Taken", Str.ofString "InUse", Str.ofString "NoFinds"] := acc.snoc s e (by rw [show (fldsN (Str.ofString "NoFinds")).length = 0 by decide +kernel]; rfl)
    have rx := rx.to s
    have ry := ry.to s
    have rz := rz.to s
    have t30 := t29.trans s
    clear s e t29
    refine ⟨_, rfl, ?_⟩
    refine newV_of (ds := [dx]) (fl := ["name"]) E_c_UnknownName_init (by decide +kernel) (by decide +kernel) (.cons rx .nil) (fun d hd => by simp only [List.mem_cons, List.not_mem_nil, or_false] at hd; rw [hd]; exact lx) rfl (by decide) fun v31 H31 s e => ?_
    replace acc : ExAll K mg H31 dx dy dz [.ref v0, .ref v1, .ref v2, .ref v3, .ref v4, .ref v5, .ref v6, .ref v7, .ref v8, .ref v9, .ref v10, .ref v11, .ref v12, .ref v13, .ref v14, .ref v15, .ref v16, .ref v17, .ref v18, .ref v19, .ref v20, .ref v21, .ref v22, .ref v23, .ref v24, .ref v25, .ref v26, .ref v27, .ref v28, .ref v29, .ref v30, .ref v31] [Str.ofString "InvalidName", Str.ofString "InvalidLot", Str.ofString "InvalidFind", Str.ofString "InvalidWord", Str.ofString "InvalidFact", Str.ofString "InvalidOrder", Str.ofString "InvalidKind", Str.ofString "InvalidPair", Str.ofString "InvalidDeed", Str.ofString "InvalidText", Str.ofString "InvalidNumber", Str.ofString "InvalidStatement", Str.ofString "InvalidQuestion", Str.ofString "InvalidClaim", Str.ofString "InvalidTimes", Str.ofString "InvalidWeights", Str.ofString "DuplicateName", Str.ofString "TooMany", Str.ofString "TooFew", Str.ofString "CannotStand", Str.ofString "Standing", Str.ofString "Clash", Str.ofString "NotFitting", Str.ofString "NotShown", Str.ofString "NotABlock", Str.ofString "OtherFinds", Str.ofString "Same", Str.ofString "NoTable", Str.ofString "Taken", Str.ofString "InUse", Str.ofString "NoFinds", Str.ofString "UnknownName"] := acc.snoc s e (by rw [show (fldsN (Str.ofString "UnknownName")).length = 1 by decide +kernel]; rfl)
    have rx := rx.to s
    have ry := ry.to s
    have rz := rz.to s
    have t31 := t30.trans s
    clear s e t30
    refine ⟨_, rfl, ?_⟩
    refine newV_of (ds := [dx]) (fl := ["name"]) E_c_UnknownFind_init (by decide +kernel) (by decide +kernel) (.cons rx .nil) (fun d hd => by simp only [List.mem_cons, List.not_mem_nil, or_false] at hd; rw [hd]; exact lx) rfl (by decide) fun v32 H32 s e => ?_
    replace acc : ExAll K mg H32 dx dy dz [.ref v0, .ref v1, .ref v2, .ref v3, .ref v4, .ref v5, .ref v6, .ref v7, .ref v8, .ref v9, .ref v10, .ref v11, .ref v12, .ref v13, .ref v14, .ref v15, .ref v16, .ref v17, .ref v18, .ref v19, .ref v20, .ref v21, .ref v22, .ref v23, .ref v24, .ref v25, .ref v26, .ref v27, .ref v28, .ref v29, .ref v30, .ref v31, .ref v32] [Str.ofString "InvalidName", Str.ofString "InvalidLot", Str.ofString "InvalidFind", Str.ofString "InvalidWord", Str.ofString "InvalidFact", Str.ofString "InvalidOrder", Str.ofString "InvalidKind", Str.ofString "InvalidPair", Str.ofString "InvalidDeed", Str.ofString "InvalidText", Str.ofString "InvalidNumber", Str.ofString "InvalidStatement", Str.ofString "InvalidQuestion", Str.ofString "InvalidClaim", Str.ofString "InvalidTimes", Str.ofString "InvalidWeights", Str.ofString "DuplicateName", Str.ofString "TooMany", Str.ofString "TooFew", Str.ofString "CannotStand", Str.ofString "Standing", Str.ofString "Clash", Str.ofString "NotFitting", Str.ofString "NotShown", Str.ofString "NotABlock", Str.ofString "OtherFinds", Str.ofString "Same", Str.ofString "NoTable", Str.ofString "Taken", Str.ofString "InUse", Str.ofString "NoFinds", Str.ofString "UnknownName", Str.ofString "UnknownFind"] := acc.snoc s e (by rw [show (fldsN (Str.ofString "UnknownFind")).length = 1 by decide +kernel]; rfl)
    have rx := rx.to s
    have ry := ry.to s
    have rz := rz.to s
    have t32 := t31.trans s
    clear s e t31
    refine ⟨_, rfl, ?_⟩
    refine newV_of (ds := [dx]) (fl := ["lot"]) E_c_UnknownNode_init (by decide +kernel) (by decide +kernel) (.cons rx .nil) (fun d hd => by simp only [List.mem_cons, List.not_mem_nil, or_false] at hd; rw [hd]; exact lx) rfl (by decide) fun v33 H33 s e => ?_
    replace acc : ExAll K mg H33 dx dy dz [.ref v0, .ref v1, .ref v2, .ref v3, .ref v4, .ref v5, .ref v6, .ref v7, .ref v8, .ref v9, .ref v10, .ref v11, .ref v12, .ref v13, .ref v14, .ref v15, .ref v16, .ref v17, .ref v18, .ref v19, .ref v20, .ref v21, .ref v22, .ref v23, .ref v24, .ref v25, .ref v26, .ref v27, .ref v28, .ref v29, .ref v30, .ref v31, .ref v32, .ref v33] [Str.ofString "InvalidName", Str.ofString "InvalidLot", Str.ofString "InvalidFind", Str.ofString "InvalidWord", Str.ofString "InvalidFact", Str.ofString "InvalidOrder", Str.ofString "InvalidKind", Str.ofString "InvalidPair", Str.ofString "InvalidDeed", Str.ofString "InvalidText", Str.ofString "InvalidNumber", Str.ofString "InvalidStatement", Str.ofString "InvalidQuestion", Str.ofString "InvalidClaim", Str.ofString "InvalidTimes", Str.ofString "InvalidWeights", Str.ofString "DuplicateName", Str.ofString "TooMany", Str.ofString "TooFew", Str.ofString "CannotStand", Str.ofString "Standing", Str.ofString "Clash", Str.ofString "NotFitting", Str.ofString "NotShown", Str.ofString "NotABlock", Str.ofString "OtherFinds", Str.ofString "Same", Str.ofString "NoTable", Str.ofString "Taken", Str.ofString "InUse", Str.ofString "NoFinds", Str.ofString "UnknownName", Str.ofString "UnknownFind", Str.ofString "UnknownNode"] := acc.snoc s e (by rw [show (fldsN (Str.ofString "UnknownNode")).length = 1 by decide +kernel]; rfl)
    have rx := rx.to s
    have ry := ry.to s
    have rz := rz.to s
    have t33 := t32.trans s
    clear s e t32
    refine ⟨_, rfl, ?_⟩
    refine newV_of (ds := [dx]) (fl := ["at"]) E_c_UnknownKept_init (by decide +kernel) (by decide +kernel) (.cons rx .nil) (fun d hd => by simp only [List.mem_cons, List.not_mem_nil, or_false] at hd; rw [hd]; exact lx) rfl (by decide) fun v34 H34 s e => ?_
    replace acc : ExAll K mg H34 dx dy dz [.ref v0, .ref v1, .ref v2, .ref v3, .ref v4, .ref v5, .ref v6, .ref v7, .ref v8, .ref v9, .ref v10, .ref v11, .ref v12, .ref v13, .ref v14, .ref v15, .ref v16, .ref v17, .ref v18, .ref v19, .ref v20, .ref v21, .ref v22, .ref v23, .ref v24, .ref v25, .ref v26, .ref v27, .ref v28, .ref v29, .ref v30, .ref v31, .ref v32, .ref v33, .ref v34] [Str.ofString "InvalidName", Str.ofString "InvalidLot", Str.ofString "InvalidFind", Str.ofString "InvalidWord", Str.ofString "InvalidFact", Str.ofString "InvalidOrder", Str.ofString "InvalidKind", Str.ofString "InvalidPair", Str.ofString "InvalidDeed", Str.ofString "InvalidText", Str.ofString "InvalidNumber", Str.ofString "InvalidStatement", Str.ofString "InvalidQuestion", Str.ofString "InvalidClaim", Str.ofString "InvalidTimes", Str.ofString "InvalidWeights", Str.ofString "DuplicateName", Str.ofString "TooMany", Str.ofString "TooFew", Str.ofString "CannotStand", Str.ofString "Standing", Str.ofString "Clash", Str.ofString "NotFitting", Str.ofString "NotShown", Str.ofString "NotABlock", Str.ofString "OtherFinds", Str.ofString "Same", Str.ofString "NoTable", Str.ofString "Taken", Str.ofString "InUse", Str.ofString "NoFinds", Str.ofString "UnknownName", Str.ofString "UnknownFind", Str.ofString "UnknownNode", Str.ofString "UnknownKept"] := acc.snoc s e (by rw [show (fldsN (Str.ofString "UnknownKept")).length = 1 by decide +kernel]; rfl)
    have rx := rx.to s
    have ry := ry.to s
    have rz := rz.to s
    have t34 := t33.trans s
    clear s e t33
    refine newV_of (ds := []) (fl := []) E_c_NothingLeft_init (by decide +kernel) (by decide +kernel) .nil (fun d hd => (List.not_mem_nil hd).elim) rfl (by decide) fun v35 H35 s e => ?_
    replace acc : ExAll K mg H35 dx dy dz [.ref v0, .ref v1, .ref v2, .ref v3, .ref v4, .ref v5, .ref v6, .ref v7, .ref v8, .ref v9, .ref v10, .ref v11, .ref v12, .ref v13, .ref v14, .ref v15, .ref v16, .ref v17, .ref v18, .ref v19, .ref v20, .ref v21, .ref v22, .ref v23, .ref v24, .ref v25, .ref v26, .ref v27, .ref v28, .ref v29, .ref v30, .ref v31, .ref v32, .ref v33, .ref v34, .ref v35] [Str.ofString "InvalidName", Str.ofString "InvalidLot", Str.ofString "InvalidFind", Str.ofString "InvalidWord", Str.ofString "InvalidFact", Str.ofString "InvalidOrder", Str.ofString "InvalidKind", Str.ofString "InvalidPair", Str.ofString "InvalidDeed", Str.ofString "InvalidText", Str.ofString "InvalidNumber", Str.ofString "InvalidStatement", Str.ofString "InvalidQuestion", Str.ofString "InvalidClaim", Str.ofString "InvalidTimes", Str.ofString "InvalidWeights", Str.ofString "DuplicateName", Str.ofString "TooMany", Str.ofString "TooFew", Str.ofString "CannotStand", Str.ofString "Standing", Str.ofString "Clash", Str.ofString "NotFitting", Str.ofString "NotShown", Str.ofString "NotABlock", Str.ofString "OtherFinds", Str.ofString "Same", Str.ofString "NoTable", Str.ofString "Taken", Str.ofString "InUse", Str.ofString "NoFinds", Str.ofString "UnknownName", Str.ofString "UnknownFind", Str.ofString "UnknownNode", Str.ofString "UnknownKept", Str.ofString "NothingLeft"] := acc.snoc s e (by rw [show (fldsN (Str.ofString "NothingLeft")).length = 0 by decide +kernel]; rfl)
    have rx := rx.to s
    have ry := ry.to s
    have rz := rz.to s
    have t35 := t34.trans s
    clear s e t34
    refine ⟨by show 36 ≤ sizeLine; decide, fun L nL => ?_⟩
    have sn := same_new (o := .lst [V.ref v0, V.ref v1, V.ref v2, V.ref v3, V.ref v4, V.ref v5, V.ref v6, V.ref v7, V.ref v8, V.ref v9, V.ref v10, V.ref v11, V.ref v12, V.ref v13, V.ref v14, V.ref v15, V.ref v16, V.ref v17, V.ref v18, V.ref v19, V.ref v20, V.ref v21, V.ref v22, V.ref v23, V.ref v24, V.ref v25, V.ref v26, V.ref v27, V.ref v28, V.ref v29, V.ref v30, V.ref v31, V.ref v32, V.ref v33, V.ref v34, V.ref v35]) nL
    exact q L _ _ (t35.trans sn) upd_same (acc.to sn)
end
end Th
namespace Th
open PySem PySem.Spec PyProof.Rows L2
theorem sc_l_same : FnScope ["_law_got", "_law_due_here", "_law_k"] ["_law_got", "_law_due_here"] (defScope s_l_same) := ⟨rfl, rfl, rfl, by decide +kernel, rfl, by decide +kernel, by decide +kernel⟩

/-- two values of the same datum are told to be the same -/
def spSm (K : PySem.W.Frag) (n : Nat) : Sp := fun vs H Q _ => ∃ (v u : V) (d : PyData), vs = [v, u] ∧ Da K H v d ∧ Da K H u d ∧ LvN n d ∧ ∀ H', Same H H' → Q (.bl true) H'
section
variable {P : Program} {w : World} {K : PySem.W.Frag} {mg : Str → Option Value} {base : Heap}
theorem same_step (Z : Zs mg) {f : Addr} {fd : FuncData} (F : Fun K "_law_same" "_law_same" s_l_same f fd) (m_l_same : mg "_law_same" = some (.ref f)) (b_l_same : Binds K fd ["_law_got", "_law_due_here"] []) (k : Nat)
    (G_l_same : FnOk P w K mg base CX0 k f fd ["_law_got", "_law_due_here"] (spSm K k)) : FnOk P w K mg base CX0 (k + 1) f fd ["_law_got", "_law_due_here"] (spSm K (k + 1)) := by
  have k_l_same := F.kp
  refine F.ok sc_l_same (fun vs H Q E h => ?_) (fun cdv A outer s H vs Q E hr h => ?_)
  · obtain ⟨v, u, d, rfl, _⟩ := h
    rfl
  · obtain ⟨v, u, d, rfl, rv, ru, lv, q⟩ := h
    have lv : Lv k d := lv
    have nd := rv.nodict
    refine ⟨_, (pss_cons (ps_if (pt_val (pe_callB (show CallR _ (.builtin "isinstance") (rIsiT K) from call_isiT) (by rfl) Z.isinstance_ (by decide +kernel) (pa_cons (pv 1) (pa_cons (pe_tup (pa_cons (pe_bltn (v := .ty "list") (by rfl) Z.list_ (by decide +kernel) rfl) (pa_cons (pe_bltn (v := .ty "tuple") (by rfl) Z.tuple_ (by decide +kernel) rfl) pa_nil))) pa_nil)))) (pss_cons (ps_if (PW.pt (pw_or (pt_cmpR op_ne (pe_callB call_isi (by rfl) Z.isinstance_ (by decide +kernel) (pa_cons (pv 0) (pa_cons (pe_bltn (v := .ty "list") (by rfl) Z.list_ (by decide +kernel) rfl) pa_nil))) (pe_callB call_isi (by rfl) Z.isinstance_ (by decide +kernel) (pa_cons (pv 1) (pa_cons (pe_bltn (v := .ty "list") (by rfl) Z.list_ (by decide +kernel) rfl) pa_nil))) (nomark _)) (pw_or1 (pt_cmpR op_ne (pe_callB call_isi (by rfl) Z.isinstance_ (by decide +kernel) (pa_cons (pv 0) (pa_cons (pe_bltn (v := .ty "tuple") (by rfl) Z.tuple_ (by decide +kernel) rfl) pa_nil))) (pe_callB call_isi (by rfl) Z.isinstance_ (by decide +kernel) (pa_cons (pv 1) (pa_cons (pe_bltn (v := .ty "tuple") (by rfl) Z.tuple_ (by decide +kernel) rfl) pa_nil))) (nomark _))))) (pss_one (ps_ret pe_bl)) pss_nil) (pss_one (ps_ret (pe_and (pe_cmpR op_eq (pe_callB call_len_seq (by rfl) Z.len_ (by decide +kernel) (pa_cons (pv 0) pa_nil)) (pe_callB call_len_seq (by rfl) Z.len_ (by decide +kernel) (pa_cons (pv 1) pa_nil)) (nomark _)) (pe_one (pe_callB (cr_all rfl) (by rfl) Z.all_ (by decide +kernel) (pa_cons (pe_lc (own := [("_law_k", 2)]) (g := gName 2) (by rfl) sc_l_same.nd (pi_range1 (by rfl) Z.range_ (pa_cons (pe_callB call_len_seq (by rfl) Z.len_ (by decide +kernel) (pa_cons (pv 1) pa_nil)) pa_nil)) (blkOk_by (own := [("_law_k", 2)]) (N := ["_law_got", "_law_due_here", "_law_k"]) (sc := defScope s_l_same) (by decide +kernel)) (fun _ _ _ _ _ => pg_name (i := 2) sc_l_same.nd rfl (Or.inl rfl)) (fun _ _ _ _ _ => pts_nil) (fun _ _ _ _ _ => (pe_call G_l_same (hr.mono (Nat.le_refl _)) (by rfl) m_l_same k_l_same b_l_same .nil pass0 (pa_cons (pe_ix (show IxR _ (rIx K) from ix_seq) (pv 0) (pv 2) (fun _ _ => rfl)) (pa_cons (pe_ix (show IxR _ (rIx K) from ix_seq) (pv 1) (pv 2) (fun _ _ => rfl)) pa_nil))))) pa_nil))))))) pss_nil) (pss_cons (ps_if (PW.pt (pw_or (pt_cmpR op_isN (pv 1) pe_non (nomark _)) (pw_or1 (pt_cmpR op_isN (pv 0) pe_non (nomark _))))) (pss_one (ps_ret (pe_and (pe_cmpR op_isN (pv 1) pe_non (nomark _)) (pe_one (pe_cmpR op_isN (pv 0) pe_non (nomark _)))))) pss_nil) (pss_cons (ps_if (PW.pt (pw_or (pt_val (pe_callB call_isi (by rfl) Z.isinstance_ (by decide +kernel) (pa_cons (pv 1) (pa_cons (pe_bltn (v := .ty "bool") (by rfl) Z.bool_ (by decide +kernel) rfl) pa_nil)))) (pw_or1 (pt_val (pe_callB call_isi (by rfl) Z.isinstance_ (by decide +kernel) (pa_cons (pv 0) (pa_cons (pe_bltn (v := .ty "bool") (by rfl) Z.bool_ (by decide +kernel) rfl) pa_nil))))))) (pss_one (ps_ret (pe_and (pe_callB call_isi (by rfl) Z.isinstance_ (by decide +kernel) (pa_cons (pv 1) (pa_cons (pe_bltn (v := .ty "bool") (by rfl) Z.bool_ (by decide +kernel) rfl) pa_nil))) (pe_and (pe_callB call_isi (by rfl) Z.isinstance_ (by decide +kernel) (pa_cons (pv 0) (pa_cons (pe_bltn (v := .ty "bool") (by rfl) Z.bool_ (by decide +kernel) rfl) pa_nil))) (pe_one (pe_cmpR op_eq (pv 0) (pv 1) (nomark _))))))) pss_nil) (pss_cons (ps_if (pt_val (pe_callB call_isi (by rfl) Z.isinstance_ (by decide +kernel) (pa_cons (pv 1) (pa_cons (pe_bltn (v := .ty "int") (by rfl) Z.int_ (by decide +kernel) rfl) pa_nil)))) (pss_one (ps_ret (pe_and (pe_callB call_isi (by rfl) Z.isinstance_ (by decide +kernel) (pa_cons (pv 0) (pa_cons (pe_bltn (v := .ty "int") (by rfl) Z.int_ (by decide +kernel) rfl) pa_nil))) (pe_one (pe_cmpR op_eq (pv 0) (pv 1) (nomark _)))))) pss_nil) (pss_one (ps_ret (pe_and (pe_callB call_isi (by rfl) Z.isinstance_ (by decide +kernel) (pa_cons (pv 1) (pa_cons (pe_bltn (v := .ty "str") (by rfl) Z.str_ (by decide +kernel) rfl) pa_nil))) (pe_and (pe_callB call_isi (by rfl) Z.isinstance_ (by decide +kernel) (pa_cons (pv 0) (pa_cons (pe_bltn (v := .ty "str") (by rfl) Z.str_ (by decide +kernel) rfl) pa_nil))) (pe_one (pe_cmpR op_eq (pv 0) (pv 1) (nomark _))))))))))), ?_⟩
    refine ⟨_, rfl, (by show 2 ≤ sizeLine; decide), fun t nt => ⟨u, t, _, _, _, _, rfl, upd_same, .cons (.ty _) (.cons (.ty _) .nil), ty_same (same_new nt) ru.ty, kit_lt d nd, _, rfl, ?_⟩⟩
    have s0 : Same H (upd H t (.tup [.ty "list", .ty "tuple"])) := same_new nt
    generalize upd H t (.tup [.ty "list", .ty "tuple"]) = H1 at s0 ⊢
    have rv1 := rv.to s0
    have ru1 := ru.to s0
    by_cases hseq : tyD d = "list" ∨ tyD d = "tuple"
    · -- the kinds, the lengths, then the items
      rw [decide_eq_true hseq]
      refine iteT ?_
      refine ⟨_, rfl, v, _, _, _, _, rfl, .ty "list", rv1.ty, kit_ty (kit_list d nd), _, rfl, u, _, _, _, _, rfl, .ty "list", ru1.ty, kit_ty (kit_list d nd), rfl, _, rfl, ?_⟩
      refine iteNS rfl ?_
      refine ⟨_, rfl, v, _, _, _, _, rfl, .ty "tuple", rv1.ty, kit_ty (kit_tuple d nd), _, rfl, u, _, _, _, _, rfl, .ty "tuple", ru1.ty, kit_ty (kit_tuple d nd), rfl, _, rfl, ?_⟩
      refine iteNS rfl ?_
      obtain ⟨p, r, xs, ys, ds, rfl, rfl, hp, hr2, rx, ry, hl, lvx⟩ := da_two rv1 ru1 hseq lv
      have l1 := rx.len
      have l2 := ry.len
      refine ⟨_, rfl, p, xs, rfl, hp, _, rfl, r, ys, rfl, hr2, rfl, _, rfl, ?_⟩
      refine ite2 (fun _ => ?_) (fun z => absurd (decide_eq_true (by rw [l1, l2])) z)
      refine ⟨_, rfl, r, ys, rfl, hr2, _, rfl, by omega, by omega, fun L nL => ?_⟩
      refine lc_range (lo := 0) (n := (ys.length : Int).toNat) (fun i H2 => Same H1 H2 ∧ H2 L = some (.lst ((List.replicate i true).map V.bl))) ⟨same_new nL, upd_same⟩ ?_ ?_
      · rintro i H2 hi ⟨s2, e2⟩
        have hi' : i < ys.length := by omega
        obtain ⟨x, hx⟩ : ∃ x, xs[i]? = some x := ⟨_, List.getElem?_eq_getElem (by omega)⟩
        obtain ⟨y, hy⟩ : ∃ y, ys[i]? = some y := ⟨_, List.getElem?_eq_getElem hi'⟩
        obtain ⟨e, he, re⟩ := rx.at hx
        obtain ⟨e', he', re'⟩ := ry.at hy
        rw [he] at he'
        cases he'
        refine ⟨rfl, _, rfl, _, rfl, ix_any (sq_any s2 hp) hx ⟨_, rfl, _, rfl, ix_any (sq_any s2 hr2) hy ⟨x, y, e, rfl, re.to s2, re'.to s2, lvx e (List.mem_of_getElem? he), fun H3 s3 => ?_⟩⟩⟩
        refine ⟨_, s3 _ _ e2, slineL (by rw [List.length_map, List.length_replicate]; omega), same_mut (s2.trans s3) nL, ?_⟩
        rw [upd_same, List.replicate_succ', List.map_append]
        rfl
      · rintro H2 ⟨s2, e2⟩
        refine ⟨L, _, rfl, .inl (.inl e2), ?_⟩
        have ea : (List.replicate (ys.length : Int).toNat true).all id = true := by
          rw [List.all_eq_true]
          intro b hb
          exact (List.mem_replicate.mp hb).2
        rw [ea]
        exact q H2 (s0.trans s2)
    rw [decide_eq_false hseq]
    refine iteF ?_
    have fin := q H1 s0
    cases d with
    | list ds => exact absurd (.inl rfl) hseq
    | tuple ds => exact absurd (.inr rfl) hseq
    | dict kvs => exact absurd rfl nd
    | none =>
      cases rv1
      cases ru1
      refine ⟨_, rfl, rfl, _, rfl, iteT ?_⟩
      exact ⟨_, rfl, rfl, _, rfl, iteT ⟨_, rfl, rfl, fin⟩⟩
    | bool b =>
      have hv : v = .bl b := by cases rv; rfl
      have hu : u = .bl b := by cases ru; rfl
      subst hv hu
      refine ⟨_, rfl, rfl, _, rfl, iteF ?_⟩
      refine ⟨_, rfl, rfl, _, rfl, iteF ?_⟩
      refine ⟨_, rfl, _, _, _, _, _, rfl, .ty "bool", ru1.ty, kit_ty (kit_bool _ nd), _, rfl, iteT ?_⟩
      refine ⟨_, rfl, _, _, _, _, _, rfl, .ty "bool", ru1.ty, kit_ty (kit_bool _ nd), _, rfl, iteT ?_⟩
      refine ⟨_, rfl, _, _, _, _, _, rfl, .ty "bool", rv1.ty, kit_ty (kit_bool _ nd), _, rfl, iteT ?_⟩
      refine ⟨_, rfl, _, rfl, rfl, ?_⟩
      rw [decide_eq_true rfl]
      exact fin
    | int b =>
      have hv : v = .int b := by cases rv; rfl
      have hu : u = .int b := by cases ru; rfl
      subst hv hu
      refine ⟨_, rfl, rfl, _, rfl, iteF ?_⟩
      refine ⟨_, rfl, rfl, _, rfl, iteF ?_⟩
      refine ⟨_, rfl, _, _, _, _, _, rfl, .ty "bool", ru1.ty, kit_ty (kit_bool _ nd), _, rfl, iteF ?_⟩
      refine ⟨_, rfl, _, _, _, _, _, rfl, .ty "bool", rv1.ty, kit_ty (kit_bool _ nd), _, rfl, iteF ?_⟩
      refine ⟨_, rfl, _, _, _, _, _, rfl, .ty "int", ru1.ty, kit_ty (kit_int _ nd), _, rfl, iteT ?_⟩
      refine ⟨_, rfl, _, _, _, _, _, rfl, .ty "int", rv1.ty, kit_ty (kit_int _ nd), _, rfl, iteT ?_⟩
      refine ⟨_, rfl, _, rfl, rfl, ?_⟩
      rw [decide_eq_true rfl]
      exact fin
    | str b =>
      have hv : v = .str b := by cases rv; rfl
      have hu : u = .str b := by cases ru; rfl
      subst hv hu
      refine ⟨_, rfl, rfl, _, rfl, iteF ?_⟩
      refine ⟨_, rfl, rfl, _, rfl, iteF ?_⟩
      refine ⟨_, rfl, _, _, _, _, _, rfl, .ty "bool", ru1.ty, kit_ty (kit_bool _ nd), _, rfl, iteF ?_⟩
      refine ⟨_, rfl, _, _, _, _, _, rfl, .ty "bool", rv1.ty, kit_ty (kit_bool _ nd), _, rfl, iteF ?_⟩
      refine ⟨_, rfl, _, _, _, _, _, rfl, .ty "int", ru1.ty, kit_ty (kit_int _ nd), _, rfl, iteF ?_⟩
      refine ⟨_, rfl, _, _, _, _, _, rfl, .ty "str", ru1.ty, kit_ty (kit_str _ nd), _, rfl, iteT ?_⟩
      refine ⟨_, rfl, _, _, _, _, _, rfl, .ty "str", rv1.ty, kit_ty (kit_str _ nd), _, rfl, iteT ?_⟩
      refine ⟨_, rfl, _, rfl, rfl, ?_⟩
      rw [decide_eq_true rfl]
      exact fin
theorem has_l_same (Z : Zs mg) (A : At K mg "_law_same" s_l_same ["_law_got", "_law_due_here"]) : Has P w K mg base "_law_same" s_l_same 6 ["_law_got", "_law_due_here"] (spSm K 6) := by
  obtain ⟨f, fd, F, mg1, bd⟩ := A
  refine ⟨f, fd, ?_, mg1, F.kp, bd, F⟩
  have G0 : FnOk P w K mg base CX0 0 f fd ["_law_got", "_law_due_here"] (spSm K 0) := ⟨fun vs H Q E h => by obtain ⟨v, u, d, rfl, _⟩ := h; rfl, fun A outer s H args us vs Q E hr he hb hv hs => by obtain ⟨v, u, d, rfl, _, _, z, _⟩ := hs; exact z.elim⟩
  exact same_step Z F mg1 bd 5 (same_step Z F mg1 bd 4 (same_step Z F mg1 bd 3 (same_step Z F mg1 bd 2 (same_step Z F mg1 bd 1 (same_step Z F mg1 bd 0 G0)))))
end
end Th
namespace Th
open PySem PySem.Spec PyProof.Rows L2
theorem sc_l_raised : FnScope ["_law_x", "_law_told_here", "_law_e"] ["_law_x"] (defScope s_l_raised) := ⟨rfl, rfl, rfl, by decide +kernel, rfl, by decide +kernel, by decide +kernel⟩
def spRaised (K : PySem.W.Frag) : Sp := fun vs H Q _ => ∃ (x : V) (d : PyData), vs = [x] ∧ Da K H x d ∧ LvN 6 d ∧ ∀ (L : Addr) H', Same H H' → Da K H' (.ref L) (.list [d, d]) → Q (.ref L) H'
section
variable {P : Program} {w : World} {K : PySem.W.Frag} {mg : Str → Option Value} {base : Heap} {CB : Addr}
theorem has_l_raised (Z : Zs mg) (gRF : ∃ c, mg "FindError" = some (.ref c) ∧ ∀ C, mg "Taken" = some (.ref C) → PySem.W.exmOne K (.ref C) (.ref c) = some true) (gRM2 : ∃ c, mg "Missing" = some (.ref c) ∧ ∀ C, mg "UnknownFind" = some (.ref C) → PySem.W.exmOne K (.ref C) (.ref c) = some true) (A : At K mg "_law_raised" s_l_raised ["_law_x"]) (h_c_Taken_init : HasE0 P w K mg base "Taken" "Taken.__init__" s_c_Taken_init ["self", "name"] ["name", "code"] 7 (spInitN K "Taken" ["name"] 6)) (h_c_UnknownFind_init : HasE0 P w K mg base "UnknownFind" "UnknownFind.__init__" s_c_UnknownFind_init ["self", "name"] ["name", "code"] 7 (spInitN K "UnknownFind" ["name"] 6)) : Has P w K mg base "_law_raised" s_l_raised 9 ["_law_x"] (spRaised K) := by
  obtain ⟨f, fd, F, mg1, bd⟩ := A
  obtain ⟨C_c_Taken_init, fI_c_Taken_init, fd_c_Taken_init, E_c_Taken_init, G_c_Taken_init⟩ := h_c_Taken_init
  obtain ⟨C_c_UnknownFind_init, fI_c_UnknownFind_init, fd_c_UnknownFind_init, E_c_UnknownFind_init, G_c_UnknownFind_init⟩ := h_c_UnknownFind_init
  obtain ⟨cF, mF, kF⟩ := gRF
  obtain ⟨cM, mM, kM⟩ := gRM2
  refine ⟨f, fd, ?_, mg1, F.kp, bd, F⟩
  refine F.ok sc_l_raised (fun vs H Q E h => ?_) (fun cdv A outer s H vs Q E hr h => ?_)
  · obtain ⟨x, d, rfl, _⟩ := h
    rfl
  · obtain ⟨x, d, rfl, rx, lx, q⟩ := h
    refine ⟨_, pss_cons (ps_set (i := 1) sc_l_raised.nd rfl (Or.inl rfl) (pe_lst pa_nil)) (pss_cons (ps_try_one (i := 2) rfl rfl sc_l_raised.nd rfl rfl (by rfl) (by decide +kernel) mF (fun W pn xe tk => pss_one (ps_raise rfl tk (pmk_new E_c_Taken_init.g E_c_Taken_init.ini E_c_Taken_init.tI G_c_Taken_init (hr.mono (by decide)) E_c_Taken_init.b (by rfl) E_c_Taken_init.m (pa_cons (pv 0) pa_nil)))) (ts := fun a cls d => tDrop (tBM K "list" rAppend (tVar 1) (tCons (tPinA K 2 a cls d "name") tNil))) (fun a oe cls d pn hz hf => pss_one (ps_expr (pe_bm PySem.F.plainAttrs_list PySem.F.slot_list_append PySem.F.type_list_append mt_append (pv 1) (pa_cons (pe_pinA (i := 2) List.mem_cons_self hz hf (pv 2)) pa_nil))))) (pss_cons (ps_try_one (i := 2) rfl rfl sc_l_raised.nd rfl rfl (by rfl) (by decide +kernel) mM (fun W pn xe tk => pss_one (ps_raise rfl tk (pmk_new E_c_UnknownFind_init.g E_c_UnknownFind_init.ini E_c_UnknownFind_init.tI G_c_UnknownFind_init (hr.mono (by decide)) E_c_UnknownFind_init.b (by rfl) E_c_UnknownFind_init.m (pa_cons (pv 0) pa_nil)))) (ts := fun a cls d => tDrop (tBM K "list" rAppend (tVar 1) (tCons (tPinA K 2 a cls d "name") tNil))) (fun a oe cls d pn hz hf => pss_one (ps_expr (pe_bm PySem.F.plainAttrs_list PySem.F.slot_list_append PySem.F.type_list_append mt_append (pv 1) (pa_cons (pe_pinA (i := 2) List.mem_cons_self hz hf (pv 2)) pa_nil))))) (pss_one (ps_ret (pv 1))))), ?_⟩
    refine ⟨by show 0 ≤ sizeLine; decide, fun L nL => ?_⟩
    have s0 := same_new (o := .lst []) nL
    have eL := upd_same (H := H) (a := L) (o := .lst [])
    have rx0 : Da K (hidS (fun b => b = L) (upd H L (.lst []))) x d := rx.to fun b o e => by
      have nb : b ≠ L := fun z => by rw [z, nL] at e; cases e
      rw [hidS_out (S := fun b => b = L) nb, upd_ne nb]
      exact e
    generalize upd H L (.lst []) = H0 at s0 eL rx0 ⊢
    refine ⟨_, rfl, ?_⟩
    refine newX_of (S := fun b => b = L) (ds := [d]) (fl := ["name"]) (W := fun cls dd H' => L2.wOne K (.ref cF) 2 _ _ cls dd _ H') E_c_Taken_init (by decide +kernel) (fun b hb => by rw [hb, eL]; exact fun z => nomatch z) (.cons rx0 .nil) (fun e he => by rw [List.mem_singleton.mp he]; exact lx) rfl (by decide) fun dx ws H1 s1 ed al => ?_
    obtain ⟨w, rfl, rw⟩ : ∃ w, ws = [w] ∧ Da K (hidS (fun b => b = L) H1) w d := by
      cases al with
      | cons h1 al => cases al; exact ⟨_, rfl, h1⟩
    have eL1 := s1 _ _ eL
    have rx1 := rx0.to (hidS_mono s1)
    refine ⟨kF _ E_c_Taken_init.m, fun a na hlen => ?_⟩
    refine ⟨_, rfl, .inl ⟨rfl, _, .inl (.inl eL1)⟩, rfl, _, dx, _, w, rfl, rfl, E_c_Taken_init.xf, E_c_Taken_init.nf _ (by decide +kernel), ed, by rfl, L, [], _, rfl, rfl, eL1, slineL (by decide), ?_⟩
    have s2 : Same H (upd H1 L (.lst ([] ++ [w]))) := same_mut (s0.trans s1) nL
    have eL2 := upd_same (H := H1) (a := L) (o := .lst ([] ++ [w]))
    have hid2 : ∀ (H' : Hp) (o : HO), Same (hidS (fun b => b = L) H') (hidS (fun b => b = L) (upd H' L o)) := fun H' o b u e => by
      obtain ⟨h1, h2⟩ := hidS_some e
      rw [hidS_out (S := fun b => b = L) h1, upd_ne h1]
      exact h2
    have rx2 := rx1.to (hid2 H1 (.lst ([] ++ [w])))
    have rw2 := rw.to (hid2 H1 (.lst ([] ++ [w])))
    generalize upd H1 L (.lst ([] ++ [w])) = H2 at s2 eL2 rx2 rw2 ⊢
    refine ⟨_, rfl, ?_⟩
    refine newX_of (S := fun b => b = L) (ds := [d]) (fl := ["name"]) (W := fun cls dd H' => L2.wOne K (.ref cM) 2 _ _ cls dd _ H') E_c_UnknownFind_init (by decide +kernel) (fun b hb => by rw [hb, eL2]; exact fun z => nomatch z) (.cons rx2 .nil) (fun e he => by rw [List.mem_singleton.mp he]; exact lx) rfl (by decide) fun dx ws H3 s3 ed al => ?_
    obtain ⟨w', rfl, rw'⟩ : ∃ w, ws = [w] ∧ Da K (hidS (fun b => b = L) H3) w d := by
      cases al with
      | cons h1 al => cases al; exact ⟨_, rfl, h1⟩
    have eL3 := s3 _ _ eL2
    refine ⟨kM _ E_c_UnknownFind_init.m, fun a na hlen => ?_⟩
    refine ⟨_, rfl, .inl ⟨rfl, _, .inl (.inl eL3)⟩, rfl, _, dx, _, w', rfl, rfl, E_c_UnknownFind_init.xf, E_c_UnknownFind_init.nf _ (by decide +kernel), ed, by rfl, L, [w], _, rfl, rfl, eL3, slineL (by show 1 < 100000; decide), ?_⟩
    refine ⟨_, rfl, q L _ (same_mut (s2.trans s3) nL) ?_⟩
    exact Da.newL upd_same (.cons (((rw2.to (hidS_mono s3)).to (hid2 H3 _)).to hidS_same) (.cons ((rw'.to (hid2 H3 _)).to hidS_same) .nil))
end
end Th
namespace Th
open PySem PySem.Spec PyProof.Rows L2
theorem sc_l_codes : FnScope [] [] (defScope s_l_codes) := ⟨rfl, rfl, rfl, by decide +kernel, rfl, by decide +kernel, by decide +kernel⟩
def spCodes : Sp := fun vs H Q _ => vs = [] ∧ ∀ (L : Addr) H', Same H H' → H L = none → H' L = some (.lst (errN.map V.str)) → Q (.ref L) H'
section
variable {P : Program} {w : World} {K : PySem.W.Frag} {mg : Str → Option Value} {base : Heap} {CB : Addr}
theorem has_l_codes (Z : Zs mg) (A : At K mg "_law_codes" s_l_codes []) : Has P w K mg base "_law_codes" s_l_codes 1 [] (spCodes) := by
  obtain ⟨f, fd, F, mg1, bd⟩ := A
  refine ⟨f, fd, ?_, mg1, F.kp, bd, F⟩
  refine F.ok sc_l_codes (fun vs H Q E h => ?_) (fun cdv A outer s H vs Q E hr h => ?_)
  · obtain ⟨rfl, _⟩ := h
    rfl
  · obtain ⟨rfl, q⟩ := h
    refine ⟨_, (pss_one (ps_ret (pe_lst (pa_cons pe_str (pa_cons pe_str (pa_cons pe_str (pa_cons pe_str (pa_cons pe_str (pa_cons pe_str (pa_cons pe_str (pa_cons pe_str (pa_cons pe_str (pa_cons pe_str (pa_cons pe_str (pa_cons pe_str (pa_cons pe_str (pa_cons pe_str (pa_cons pe_str (pa_cons pe_str (pa_cons pe_str (pa_cons pe_str (pa_cons pe_str (pa_cons pe_str (pa_cons pe_str (pa_cons pe_str (pa_cons pe_str (pa_cons pe_str (pa_cons pe_str (pa_cons pe_str (pa_cons pe_str (pa_cons pe_str (pa_cons pe_str (pa_cons pe_str (pa_cons pe_str (pa_cons pe_str (pa_cons pe_str (pa_cons pe_str (pa_cons pe_str (pa_cons pe_str pa_nil))))))))))))))))))))))))))))))))))))))), ?_⟩
    exact ⟨by show 36 ≤ sizeLine; decide, fun L nL => q L _ (same_new nL) nL upd_same⟩
end
end Th
namespace Th
open PySem PySem.Spec PyProof.Rows L2
def atC : List Str := ["InvalidLot", "InvalidFind", "InvalidWord", "InvalidFact"]
def nameC : List Str := ["DuplicateName", "UnknownName", "UnknownFind"]
/-- the fields that are told of an error -/
def FlA (code : Str) (fs : List (Str × V)) (ws : List V) : Prop :=
  (code = "InvalidName" ∧ ∃ v, fs.lookup ("value" : Str) = some v ∧ ws = [v]) ∨ (code ∈ atC ∧ ∃ v, fs.lookup ("at" : Str) = some v ∧ ws = [v]) ∨ (code ∈ nameC ∧ ∃ v, fs.lookup ("name" : Str) = some v ∧ ws = [v]) ∨
  (code = "InvalidText" ∧ ∃ v u, fs.lookup ("line" : Str) = some v ∧ fs.lookup ("why" : Str) = some u ∧ ws = [v, u]) ∨ (code = "TooMany" ∧ ∃ v, fs.lookup ("most" : Str) = some v ∧ ws = [v]) ∨
  (code ≠ "InvalidName" ∧ code ∉ atC ∧ code ∉ nameC ∧ code ≠ "InvalidText" ∧ code ≠ "TooMany" ∧ ws = [])
theorem FlA.c1 {code : Str} {fs : List (Str × V)} {ws : List V} (h : FlA code fs ws) (e : code = "InvalidName") : ∃ v, fs.lookup ("value" : Str) = some v ∧ ws = [v] := by
  subst e
  rcases h with ⟨_, h⟩ | ⟨m, _⟩ | ⟨m, _⟩ | ⟨m, _⟩ | ⟨m, _⟩ | ⟨m, _⟩
  · exact h
  · exact absurd m (by decide +kernel)
  · exact absurd m (by decide +kernel)
  · exact absurd m (by decide +kernel)
  · exact absurd m (by decide +kernel)
  · exact absurd rfl m
theorem FlA.c2 {code : Str} {fs : List (Str × V)} {ws : List V} (h : FlA code fs ws) (e : code ∈ atC) : ∃ v, fs.lookup ("at" : Str) = some v ∧ ws = [v] := by
  rcases h with ⟨m, _⟩ | ⟨_, h⟩ | ⟨m, _⟩ | ⟨m, _⟩ | ⟨m, _⟩ | ⟨_, m, _⟩
  · rw [m] at e; exact absurd e (by decide +kernel)
  · exact h
  · exact absurd m ((by decide +kernel : ∀ c ∈ atC, c ∉ nameC) code e)
  · rw [m] at e; exact absurd e (by decide +kernel)
  · rw [m] at e; exact absurd e (by decide +kernel)
  · exact absurd e m
theorem FlA.c3 {code : Str} {fs : List (Str × V)} {ws : List V} (h : FlA code fs ws) (e : code ∈ nameC) : ∃ v, fs.lookup ("name" : Str) = some v ∧ ws = [v] := by
  rcases h with ⟨m, _⟩ | ⟨m, _⟩ | ⟨_, h⟩ | ⟨m, _⟩ | ⟨m, _⟩ | ⟨_, _, m, _⟩
  · rw [m] at e; exact absurd e (by decide +kernel)
  · exact absurd m ((by decide +kernel : ∀ c ∈ nameC, c ∉ atC) code e)
  · exact h
  · rw [m] at e; exact absurd e (by decide +kernel)
  · rw [m] at e; exact absurd e (by decide +kernel)
  · exact absurd e m
theorem FlA.c4 {code : Str} {fs : List (Str × V)} {ws : List V} (h : FlA code fs ws) (e : code = "InvalidText") : ∃ v u, fs.lookup ("line" : Str) = some v ∧ fs.lookup ("why" : Str) = some u ∧ ws = [v, u] := by
  subst e
  rcases h with ⟨m, _⟩ | ⟨m, _⟩ | ⟨m, _⟩ | ⟨_, h⟩ | ⟨m, _⟩ | ⟨_, _, _, m, _⟩
  · exact absurd m (by decide +kernel)
  · exact absurd m (by decide +kernel)
  · exact absurd m (by decide +kernel)
  · exact h
  · exact absurd m (by decide +kernel)
  · exact absurd rfl m
theorem FlA.c5 {code : Str} {fs : List (Str × V)} {ws : List V} (h : FlA code fs ws) (e : code = "TooMany") : ∃ v, fs.lookup ("most" : Str) = some v ∧ ws = [v] := by
  subst e
  rcases h with ⟨m, _⟩ | ⟨m, _⟩ | ⟨m, _⟩ | ⟨m, _⟩ | ⟨_, h⟩ | ⟨_, _, _, _, m, _⟩
  · exact absurd m (by decide +kernel)
  · exact absurd m (by decide +kernel)
  · exact absurd m (by decide +kernel)
  · exact absurd m (by decide +kernel)
  · exact h
  · exact absurd rfl m
theorem FlA.c6 {code : Str} {fs : List (Str × V)} {ws : List V} (h : FlA code fs ws) (h1 : code ≠ "InvalidName") (h2 : code ∉ atC) (h3 : code ∉ nameC) (h4 : code ≠ "InvalidText") (h5 : code ≠ "TooMany") : ws = [] := by
  rcases h with ⟨m, _⟩ | ⟨m, _⟩ | ⟨m, _⟩ | ⟨m, _⟩ | ⟨m, _⟩ | ⟨_, _, _, _, _, h⟩
  · exact absurd m h1
  · exact absurd m h2
  · exact absurd m h3
  · exact absurd m h4
  · exact absurd m h5
  · exact h
theorem dec_str {x y : Str} : decide (V.str x = V.str y) = decide (x = y) := by
  rw [Bool.eq_iff_iff, decide_eq_true_eq, decide_eq_true_eq]
  exact ⟨fun h => V.str.inj h, fun h => by rw [h]⟩
theorem fld_of {K : PySem.W.Frag} {mg : Str → Option Value} {code : Str} {fs : List (Str × V)} {C dd : Addr} {H : Hp} (E : IsExc K mg code fs (.ref C) (some dd) H) : XfC K C ∧ (∀ (f : Str) v, fs.lookup f = some v → PySem.W.findIn K (.ref C) f = some none) ∧ H dd = some (.xd fs) := by
  obtain ⟨⟨C', dd', e1, e2, T, nf, e, _⟩, _⟩ := E
  cases e1
  cases e2
  exact ⟨T, fun f v l => nf f (List.mem_map.mpr ⟨(f, v), PySem.mem_of_lookup l, rfl⟩), e⟩
end Th
namespace Th
open PySem PySem.Spec PyProof.Rows L2
theorem sc_l_told : FnScope ["_law_e", "_law_code"] ["_law_e", "_law_code"] (defScope s_l_told) := ⟨rfl, rfl, rfl, by decide +kernel, rfl, by decide +kernel, by decide +kernel⟩
def spToldE (K : PySem.W.Frag) (mg : Str → Option Value) : Sp := fun vs H Q _ => ∃ (v : V) (n : Str) (ds : List PyData), vs = [v, .str n] ∧ ExV K mg H v n ds ∧ n ∈ errN ∧ ∀ (r : Addr) H', Same H H' → Da K H' (.ref r) (.tuple ds) → Q (.ref r) H'
section
variable {P : Program} {w : World} {K : PySem.W.Frag} {mg : Str → Option Value} {base : Heap} {CB : Addr}
theorem has_l_told (Z : Zs mg) (A : At K mg "_law_told" s_l_told ["_law_e", "_law_code"]) : Has P w K mg base "_law_told" s_l_told 1 ["_law_e", "_law_code"] (spToldE K mg) := by
  obtain ⟨f, fd, F, mg1, bd⟩ := A
  refine ⟨f, fd, ?_, mg1, F.kp, bd, F⟩
  refine F.ok sc_l_told (fun vs H Q E h => ?_) (fun cdv A outer s H vs Q E hr h => ?_)
  · obtain ⟨v, n, ds, rfl, _⟩ := h
    rfl
  · obtain ⟨v, n, ds, rfl, ⟨a, C, dx, ws, rfl, m, xf, nf, ea, ed, al, hl⟩, hn, q⟩ := h
    refine ⟨_, (pss_cons (ps_if (pt_cmpR op_in_seq (pv 1) (pe_tup (pa_cons pe_str (pa_cons pe_str pa_nil))) (by rfl)) (pss_one (ps_ret (pe_tup (pa_cons (pe_xfV (pv 0)) pa_nil)))) pss_nil) (pss_cons (ps_if (pt_cmpR op_in_seq (pv 1) (pe_tup (pa_cons pe_str (pa_cons pe_str (pa_cons pe_str (pa_cons pe_str (pa_cons pe_str (pa_cons pe_str (pa_cons pe_str (pa_cons pe_str (pa_cons pe_str pa_nil)))))))))) (by rfl)) (pss_one (ps_ret (pe_tup (pa_cons (pe_xfV (pv 0)) pa_nil)))) pss_nil) (pss_cons (ps_if (pt_cmpR op_in_seq (pv 1) (pe_tup (pa_cons pe_str (pa_cons pe_str (pa_cons pe_str (pa_cons pe_str (pa_cons pe_str (pa_cons pe_str (pa_cons pe_str pa_nil)))))))) (by rfl)) (pss_one (ps_ret (pe_tup (pa_cons (pe_xfV (pv 0)) pa_nil)))) pss_nil) (pss_cons (ps_if (pt_cmpR op_in_seq (pv 1) (pe_tup (pa_cons pe_str (pa_cons pe_str pa_nil))) (by rfl)) (pss_one (ps_ret (pe_ifExp (pt_cmpR op_eq (pv 1) pe_str (nomark _)) (pe_tup (pa_cons (pe_xfV (pv 0)) pa_nil)) (pe_tup (pa_cons (pe_xfV (pv 0)) pa_nil))))) pss_nil) (pss_cons (ps_if (pt_cmpR op_in_seq (pv 1) (pe_tup (pa_cons pe_str (pa_cons pe_str pa_nil))) (by rfl)) (pss_one (ps_ret (pe_tup (pa_cons (pe_xfV (pv 0)) pa_nil)))) pss_nil) (pss_cons (ps_if (pt_cmpR op_in_seq (pv 1) (pe_tup (pa_cons pe_str (pa_cons pe_str pa_nil))) (by rfl)) (pss_one (ps_ret (pe_ifExp (pt_cmpR op_eq (pv 1) pe_str (nomark _)) (pe_tup (pa_cons (pe_xfV (pv 0)) pa_nil)) (pe_tup (pa_cons (pe_xfV (pv 0)) pa_nil))))) pss_nil) (pss_cons (ps_if (pt_cmpR op_in_seq (pv 1) (pe_tup (pa_cons pe_str (pa_cons pe_str pa_nil))) (by rfl)) (pss_one (ps_ret (pe_ifExp (pt_cmpR op_eq (pv 1) pe_str (nomark _)) (pe_tup (pa_cons (pe_xfV (pv 0)) (pa_cons (pe_xfV (pv 0)) pa_nil))) (pe_tup (pa_cons (pe_xfV (pv 0)) (pa_cons (pe_xfV (pv 0)) pa_nil)))))) pss_nil) (pss_one (ps_ret (pe_ifExp (pt_cmpR op_eq (pv 1) pe_str (nomark _)) (pe_tup (pa_cons (pe_xfV (pv 0)) (pa_cons (pe_xfV (pv 0)) (pa_cons (pe_xfV (pv 0)) pa_nil)))) (pe_tup pa_nil))))))))))), ?_⟩
    have hin : ∀ (xs : List Str), inV (V.str n) (xs.map V.str) = decide (n ∈ xs) := fun xs => inS n xs
    have lw := al.len
    have s0 := Same.refl H
    have fin : ∀ (r : Addr) H' (us : List V), Same H H' → H' r = none → us = ws → Q (.ref r) (upd H' r (.tup us)) := fun r H' us s nr e => by
      subst e
      have s2 := s.trans (same_new (o := .tup us) nr)
      exact q r _ s2 (Da.newT upd_same (al.to s2))
    refine ⟨_, rfl, (by show 2 ≤ sizeLine; decide), fun t1 n1 => ⟨t1, _, rfl, .inr (.inl (.inl upd_same)), rfl, rfl, _, rfl, ?_⟩⟩
    have s1 := s0.trans (same_new (o := .tup (([Str.ofString "InvalidName", Str.ofString "InvalidNumber"] : List Str).map V.str)) n1)
    rw [if_neg Bool.false_ne_true, show inV (V.str n) [V.str "InvalidName", V.str "InvalidNumber"] = decide (n ∈ valN) from hin valN]
    refine ite2 (fun c1 => ?_) (fun c1 => ?_)
    · have hf : fldsN n = [Str.ofString "value"] := (by decide +kernel : ∀ n ∈ valN, fldsN n = [Str.ofString "value"]) n (of_decide_eq_true c1)
      have hl2 : ws.length = 1 := by rw [lw, hl, hf]; rfl
      obtain ⟨u0, rfl⟩ : ∃ (u0 : V), ws = [u0] := match ws, hl2 with | [u0], _ => ⟨u0, rfl⟩
      rw [hf] at ed
      exact ⟨_, rfl, a, C, dx, _, u0, rfl, s1 _ _ ea, s1 _ _ ed, xf, nf _ (by rw [hf]; decide +kernel), by rfl, by show 1 ≤ sizeLine; decide, fun r nr => fin r _ _ s1 nr rfl⟩
    have g1 : n ∉ valN := fun z => c1 (decide_eq_true z)
    refine ⟨_, rfl, (by show 9 ≤ sizeLine; decide), fun t2 n2 => ⟨t2, _, rfl, .inr (.inl (.inl upd_same)), rfl, rfl, _, rfl, ?_⟩⟩
    have s2 := s1.trans (same_new (o := .tup (([Str.ofString "InvalidLot", Str.ofString "InvalidFind", Str.ofString "InvalidWord", Str.ofString "InvalidFact", Str.ofString "InvalidOrder", Str.ofString "InvalidKind", Str.ofString "InvalidPair", Str.ofString "InvalidDeed", Str.ofString "UnknownKept"] : List Str).map V.str)) n2)
    rw [if_neg Bool.false_ne_true, show inV (V.str n) [V.str "InvalidLot", V.str "InvalidFind", V.str "InvalidWord", V.str "InvalidFact", V.str "InvalidOrder", V.str "InvalidKind", V.str "InvalidPair", V.str "InvalidDeed", V.str "UnknownKept"] = decide (n ∈ atN) from hin atN]
    refine ite2 (fun c2 => ?_) (fun c2 => ?_)
    · have hf : fldsN n = [Str.ofString "at"] := (by decide +kernel : ∀ n ∈ atN, fldsN n = [Str.ofString "at"]) n (of_decide_eq_true c2)
      have hl2 : ws.length = 1 := by rw [lw, hl, hf]; rfl
      obtain ⟨u0, rfl⟩ : ∃ (u0 : V), ws = [u0] := match ws, hl2 with | [u0], _ => ⟨u0, rfl⟩
      rw [hf] at ed
      exact ⟨_, rfl, a, C, dx, _, u0, rfl, s2 _ _ ea, s2 _ _ ed, xf, nf _ (by rw [hf]; decide +kernel), by rfl, by show 1 ≤ sizeLine; decide, fun r nr => fin r _ _ s2 nr rfl⟩
    have g2 : n ∉ atN := fun z => c2 (decide_eq_true z)
    refine ⟨_, rfl, (by show 7 ≤ sizeLine; decide), fun t3 n3 => ⟨t3, _, rfl, .inr (.inl (.inl upd_same)), rfl, rfl, _, rfl, ?_⟩⟩
    have s3 := s2.trans (same_new (o := .tup (([Str.ofString "InvalidTimes", Str.ofString "InvalidWeights", Str.ofString "DuplicateName", Str.ofString "Same", Str.ofString "Taken", Str.ofString "UnknownName", Str.ofString "UnknownFind"] : List Str).map V.str)) n3)
    rw [if_neg Bool.false_ne_true, show inV (V.str n) [V.str "InvalidTimes", V.str "InvalidWeights", V.str "DuplicateName", V.str "Same", V.str "Taken", V.str "UnknownName", V.str "UnknownFind"] = decide (n ∈ nameN) from hin nameN]
    refine ite2 (fun c3 => ?_) (fun c3 => ?_)
    · have hf : fldsN n = [Str.ofString "name"] := (by decide +kernel : ∀ n ∈ nameN, fldsN n = [Str.ofString "name"]) n (of_decide_eq_true c3)
      have hl2 : ws.length = 1 := by rw [lw, hl, hf]; rfl
      obtain ⟨u0, rfl⟩ : ∃ (u0 : V), ws = [u0] := match ws, hl2 with | [u0], _ => ⟨u0, rfl⟩
      rw [hf] at ed
      exact ⟨_, rfl, a, C, dx, _, u0, rfl, s3 _ _ ea, s3 _ _ ed, xf, nf _ (by rw [hf]; decide +kernel), by rfl, by show 1 ≤ sizeLine; decide, fun r nr => fin r _ _ s3 nr rfl⟩
    have g3 : n ∉ nameN := fun z => c3 (decide_eq_true z)
    refine ⟨_, rfl, (by show 2 ≤ sizeLine; decide), fun t4 n4 => ⟨t4, _, rfl, .inr (.inl (.inl upd_same)), rfl, rfl, _, rfl, ?_⟩⟩
    have s4 := s3.trans (same_new (o := .tup (([Str.ofString "TooMany", Str.ofString "TooFew"] : List Str).map V.str)) n4)
    rw [if_neg Bool.false_ne_true, show inV (V.str n) [V.str "TooMany", V.str "TooFew"] = decide (n ∈ [Str.ofString "TooMany", Str.ofString "TooFew"]) from hin [Str.ofString "TooMany", Str.ofString "TooFew"]]
    refine ite2 (fun c4 => ?_) (fun c4 => ?_)
    · refine ⟨_, rfl, rfl, _, rfl, ?_⟩
      rw [dec_str]
      refine ite2 (fun z => ?_) (fun z => ?_)
      · have hf : fldsN n = [Str.ofString "most"] := by rw [of_decide_eq_true z]; decide +kernel
        have hl2 : ws.length = 1 := by rw [lw, hl, hf]; rfl
        obtain ⟨u0, rfl⟩ : ∃ (u0 : V), ws = [u0] := match ws, hl2 with | [u0], _ => ⟨u0, rfl⟩
        rw [hf] at ed
        exact ⟨_, rfl, a, C, dx, _, u0, rfl, s4 _ _ ea, s4 _ _ ed, xf, nf _ (by rw [hf]; decide +kernel), by rfl, by show 1 ≤ sizeLine; decide, fun r nr => fin r _ _ s4 nr rfl⟩
      · have hf : fldsN n = [Str.ofString "least"] := by
          have e : n = Str.ofString "TooFew" := by
            have := of_decide_eq_true c4
            simp only [List.mem_cons, List.not_mem_nil, or_false] at this
            exact this.resolve_left fun w => z (decide_eq_true w)
          rw [e]; decide +kernel
        have hl2 : ws.length = 1 := by rw [lw, hl, hf]; rfl
        obtain ⟨u0, rfl⟩ : ∃ (u0 : V), ws = [u0] := match ws, hl2 with | [u0], _ => ⟨u0, rfl⟩
        rw [hf] at ed
        exact ⟨_, rfl, a, C, dx, _, u0, rfl, s4 _ _ ea, s4 _ _ ed, xf, nf _ (by rw [hf]; decide +kernel), by rfl, by show 1 ≤ sizeLine; decide, fun r nr => fin r _ _ s4 nr rfl⟩
    have g4 : n ∉ [Str.ofString "TooMany", Str.ofString "TooFew"] := fun z => c4 (decide_eq_true z)
    refine ⟨_, rfl, (by show 2 ≤ sizeLine; decide), fun t5 n5 => ⟨t5, _, rfl, .inr (.inl (.inl upd_same)), rfl, rfl, _, rfl, ?_⟩⟩
    have s5 := s4.trans (same_new (o := .tup (([Str.ofString "NotABlock", Str.ofString "UnknownNode"] : List Str).map V.str)) n5)
    rw [if_neg Bool.false_ne_true, show inV (V.str n) [V.str "NotABlock", V.str "UnknownNode"] = decide (n ∈ lotN) from hin lotN]
    refine ite2 (fun c5 => ?_) (fun c5 => ?_)
    · have hf : fldsN n = [Str.ofString "lot"] := (by decide +kernel : ∀ n ∈ lotN, fldsN n = [Str.ofString "lot"]) n (of_decide_eq_true c5)
      have hl2 : ws.length = 1 := by rw [lw, hl, hf]; rfl
      obtain ⟨u0, rfl⟩ : ∃ (u0 : V), ws = [u0] := match ws, hl2 with | [u0], _ => ⟨u0, rfl⟩
      rw [hf] at ed
      exact ⟨_, rfl, a, C, dx, _, u0, rfl, s5 _ _ ea, s5 _ _ ed, xf, nf _ (by rw [hf]; decide +kernel), by rfl, by show 1 ≤ sizeLine; decide, fun r nr => fin r _ _ s5 nr rfl⟩
    have g5 : n ∉ lotN := fun z => c5 (decide_eq_true z)
    refine ⟨_, rfl, (by show 2 ≤ sizeLine; decide), fun t6 n6 => ⟨t6, _, rfl, .inr (.inl (.inl upd_same)), rfl, rfl, _, rfl, ?_⟩⟩
    have s6 := s5.trans (same_new (o := .tup (([Str.ofString "Clash", Str.ofString "InUse"] : List Str).map V.str)) n6)
    rw [if_neg Bool.false_ne_true, show inV (V.str n) [V.str "Clash", V.str "InUse"] = decide (n ∈ [Str.ofString "Clash", Str.ofString "InUse"]) from hin [Str.ofString "Clash", Str.ofString "InUse"]]
    refine ite2 (fun c6 => ?_) (fun c6 => ?_)
    · refine ⟨_, rfl, rfl, _, rfl, ?_⟩
      rw [dec_str]
      refine ite2 (fun z => ?_) (fun z => ?_)
      · have hf : fldsN n = [Str.ofString "marks"] := by rw [of_decide_eq_true z]; decide +kernel
        have hl2 : ws.length = 1 := by rw [lw, hl, hf]; rfl
        obtain ⟨u0, rfl⟩ : ∃ (u0 : V), ws = [u0] := match ws, hl2 with | [u0], _ => ⟨u0, rfl⟩
        rw [hf] at ed
        exact ⟨_, rfl, a, C, dx, _, u0, rfl, s6 _ _ ea, s6 _ _ ed, xf, nf _ (by rw [hf]; decide +kernel), by rfl, by show 1 ≤ sizeLine; decide, fun r nr => fin r _ _ s6 nr rfl⟩
      · have hf : fldsN n = [Str.ofString "mark"] := by
          have e : n = Str.ofString "InUse" := by
            have := of_decide_eq_true c6
            simp only [List.mem_cons, List.not_mem_nil, or_false] at this
            exact this.resolve_left fun w => z (decide_eq_true w)
          rw [e]; decide +kernel
        have hl2 : ws.length = 1 := by rw [lw, hl, hf]; rfl
        obtain ⟨u0, rfl⟩ : ∃ (u0 : V), ws = [u0] := match ws, hl2 with | [u0], _ => ⟨u0, rfl⟩
        rw [hf] at ed
        exact ⟨_, rfl, a, C, dx, _, u0, rfl, s6 _ _ ea, s6 _ _ ed, xf, nf _ (by rw [hf]; decide +kernel), by rfl, by show 1 ≤ sizeLine; decide, fun r nr => fin r _ _ s6 nr rfl⟩
    have g6 : n ∉ [Str.ofString "Clash", Str.ofString "InUse"] := fun z => c6 (decide_eq_true z)
    refine ⟨_, rfl, (by show 2 ≤ sizeLine; decide), fun t7 n7 => ⟨t7, _, rfl, .inr (.inl (.inl upd_same)), rfl, rfl, _, rfl, ?_⟩⟩
    have s7 := s6.trans (same_new (o := .tup (([Str.ofString "InvalidText", Str.ofString "NoTable"] : List Str).map V.str)) n7)
    rw [if_neg Bool.false_ne_true, show inV (V.str n) [V.str "InvalidText", V.str "NoTable"] = decide (n ∈ [Str.ofString "InvalidText", Str.ofString "NoTable"]) from hin [Str.ofString "InvalidText", Str.ofString "NoTable"]]
    refine ite2 (fun c7 => ?_) (fun c7 => ?_)
    · refine ⟨_, rfl, rfl, _, rfl, ?_⟩
      rw [dec_str]
      refine ite2 (fun z => ?_) (fun z => ?_)
      · have hf : fldsN n = [Str.ofString "line", Str.ofString "why"] := by rw [of_decide_eq_true z]; decide +kernel
        have hl2 : ws.length = 2 := by rw [lw, hl, hf]; rfl
        obtain ⟨u0, u1, rfl⟩ : ∃ (u0 : V) (u1 : V), ws = [u0, u1] := match ws, hl2 with | [u0, u1], _ => ⟨u0, u1, rfl⟩
        rw [hf] at ed
        exact ⟨_, rfl, a, C, dx, _, u0, rfl, s7 _ _ ea, s7 _ _ ed, xf, nf _ (by rw [hf]; decide +kernel), by rfl, _, rfl, a, C, dx, _, u1, rfl, s7 _ _ ea, s7 _ _ ed, xf, nf _ (by rw [hf]; decide +kernel), by rfl, by show 2 ≤ sizeLine; decide, fun r nr => fin r _ _ s7 nr rfl⟩
      · have hf : fldsN n = [Str.ofString "why", Str.ofString "found"] := by
          have e : n = Str.ofString "NoTable" := by
            have := of_decide_eq_true c7
            simp only [List.mem_cons, List.not_mem_nil, or_false] at this
            exact this.resolve_left fun w => z (decide_eq_true w)
          rw [e]; decide +kernel
        have hl2 : ws.length = 2 := by rw [lw, hl, hf]; rfl
        obtain ⟨u0, u1, rfl⟩ : ∃ (u0 : V) (u1 : V), ws = [u0, u1] := match ws, hl2 with | [u0, u1], _ => ⟨u0, u1, rfl⟩
        rw [hf] at ed
        exact ⟨_, rfl, a, C, dx, _, u0, rfl, s7 _ _ ea, s7 _ _ ed, xf, nf _ (by rw [hf]; decide +kernel), by rfl, _, rfl, a, C, dx, _, u1, rfl, s7 _ _ ea, s7 _ _ ed, xf, nf _ (by rw [hf]; decide +kernel), by rfl, by show 2 ≤ sizeLine; decide, fun r nr => fin r _ _ s7 nr rfl⟩
    have g7 : n ∉ [Str.ofString "InvalidText", Str.ofString "NoTable"] := fun z => c7 (decide_eq_true z)
    refine ⟨_, rfl, rfl, _, rfl, ?_⟩
    rw [dec_str]
    refine ite2 (fun z => ?_) (fun z => ?_)
    · have hf : fldsN n = [Str.ofString "one", Str.ofString "two", Str.ofString "three"] := by rw [of_decide_eq_true z]; decide +kernel
      have hl2 : ws.length = 3 := by rw [lw, hl, hf]; rfl
      obtain ⟨u0, u1, u2, rfl⟩ : ∃ (u0 : V) (u1 : V) (u2 : V), ws = [u0, u1, u2] := match ws, hl2 with | [u0, u1, u2], _ => ⟨u0, u1, u2, rfl⟩
      rw [hf] at ed
      exact ⟨_, rfl, a, C, dx, _, u0, rfl, s7 _ _ ea, s7 _ _ ed, xf, nf _ (by rw [hf]; decide +kernel), by rfl, _, rfl, a, C, dx, _, u1, rfl, s7 _ _ ea, s7 _ _ ed, xf, nf _ (by rw [hf]; decide +kernel), by rfl, _, rfl, a, C, dx, _, u2, rfl, s7 _ _ ea, s7 _ _ ed, xf, nf _ (by rw [hf]; decide +kernel), by rfl, by show 3 ≤ sizeLine; decide, fun r nr => fin r _ _ s7 nr rfl⟩
    · have hf : fldsN n = [] := (by decide +kernel : ∀ n ∈ errN, n ∉ valN → n ∉ atN → n ∉ nameN → n ∉ [Str.ofString "TooMany", Str.ofString "TooFew"] → n ∉ lotN → n ∉ [Str.ofString "Clash", Str.ofString "InUse"] → n ∉ [Str.ofString "InvalidText", Str.ofString "NoTable"] → n ≠ Str.ofString "CannotStand" → fldsN n = []) n hn g1 g2 g3 g4 g5 g6 g7 (fun w => z (decide_eq_true w))
      have hl2 : ws.length = 0 := by rw [lw, hl, hf]; rfl
      obtain rfl : ws = [] := List.length_eq_zero_iff.mp hl2
      exact ⟨Nat.zero_le _, fun r nr => fin r _ _ s7 nr rfl⟩
end
end Th
namespace Th
open PySem PySem.Spec PyProof.Rows L2
theorem sc_l_due : FnScope ["_law_code", "_law_x", "_law_y", "_law_z", "_law_bare"] ["_law_code", "_law_x", "_law_y", "_law_z"] (defScope s_l_due) := ⟨rfl, rfl, rfl, by decide +kernel, rfl, by decide +kernel, by decide +kernel⟩
def bareN : List Str := [Str.ofString "InvalidStatement", Str.ofString "InvalidQuestion", Str.ofString "InvalidClaim", Str.ofString "Standing", Str.ofString "NotFitting", Str.ofString "NotShown", Str.ofString "OtherFinds", Str.ofString "NoFinds", Str.ofString "NothingLeft"]
/-- what is due beside the code -/
def spDueE : Sp := fun vs H Q _ => ∃ (n : Str) (x y z : V), vs = [.str n, x, y, z] ∧ n ∈ errN ∧ ∀ (r : Addr) H', Same H H' → H' r = some (.tup ([x, y, z].take (fldsN n).length)) → Q (.ref r) H'
theorem one_fld : ∀ n ∈ errN, n ≠ Str.ofString "CannotStand" → n ∉ [Str.ofString "InvalidText", Str.ofString "NoTable"] → n ∉ bareN → (fldsN n).length = 1 := by decide +kernel
theorem no_fld : ∀ n ∈ bareN, (fldsN n).length = 0 := by decide +kernel
theorem two_fld : ∀ n ∈ [Str.ofString "InvalidText", Str.ofString "NoTable"], (fldsN n).length = 2 := by decide +kernel
section
variable {P : Program} {w : World} {K : PySem.W.Frag} {mg : Str → Option Value} {base : Heap} {CB : Addr}
theorem has_l_due (Z : Zs mg) (A : At K mg "_law_due" s_l_due ["_law_code", "_law_x", "_law_y", "_law_z"]) : Has P w K mg base "_law_due" s_l_due 1 ["_law_code", "_law_x", "_law_y", "_law_z"] (spDueE) := by
  obtain ⟨f, fd, F, mg1, bd⟩ := A
  refine ⟨f, fd, ?_, mg1, F.kp, bd, F⟩
  refine F.ok sc_l_due (fun vs H Q E h => ?_) (fun cdv A outer s H vs Q E hr h => ?_)
  · obtain ⟨n, x, y, z, rfl, _⟩ := h
    rfl
  · obtain ⟨n, x, y, z, rfl, hn, q⟩ := h
    refine ⟨_, (pss_cons (ps_if (pt_cmpR op_eq (pv 0) pe_str (nomark _)) (pss_one (ps_ret (pe_tup (pa_cons (pv 1) (pa_cons (pv 2) (pa_cons (pv 3) pa_nil)))))) pss_nil) (pss_cons (ps_if (pt_cmpR op_in_seq (pv 0) (pe_tup (pa_cons pe_str (pa_cons pe_str pa_nil))) (by rfl)) (pss_one (ps_ret (pe_tup (pa_cons (pv 1) (pa_cons (pv 2) pa_nil))))) pss_nil) (pss_cons (ps_set (i := 4) sc_l_due.nd rfl (Or.inl rfl) (pe_tup (pa_cons pe_str (pa_cons pe_str (pa_cons pe_str (pa_cons pe_str (pa_cons pe_str (pa_cons pe_str (pa_cons pe_str (pa_cons pe_str (pa_cons pe_str pa_nil))))))))))) (pss_one (ps_ret (pe_ifExp (pt_cmpR op_in_seq (pv 0) (pv 4) (by rfl)) (pe_tup pa_nil) (pe_tup (pa_cons (pv 1) pa_nil)))))))), ?_⟩
    have hin : ∀ (xs : List Str), inV (V.str n) (xs.map V.str) = decide (n ∈ xs) := fun xs => inS n xs
    refine ⟨_, rfl, rfl, _, rfl, ?_⟩
    rw [dec_str]
    refine ite2 (fun c1 => ?_) (fun c1 => ?_)
    · have e := of_decide_eq_true c1
      have el : (fldsN n).length = 3 := by rw [e]; decide +kernel
      refine ⟨_, rfl, _, rfl, _, rfl, by show 3 ≤ sizeLine; decide, fun r nr => q r _ (same_new nr) ?_⟩
      rw [el]
      exact upd_same
    have e1 : n ≠ Str.ofString "CannotStand" := fun z => c1 (decide_eq_true z)
    refine ⟨_, rfl, (by show 2 ≤ sizeLine; decide), fun t1 n1 => ⟨t1, _, rfl, .inr (.inl (.inl upd_same)), rfl, rfl, _, rfl, ?_⟩⟩
    have s1 := same_new (o := .tup ([Str.ofString "InvalidText", Str.ofString "NoTable"].map V.str)) n1
    rw [if_neg Bool.false_ne_true, show inV (V.str n) [V.str "InvalidText", V.str "NoTable"] = decide (n ∈ [Str.ofString "InvalidText", Str.ofString "NoTable"]) from hin [Str.ofString "InvalidText", Str.ofString "NoTable"]]
    refine ite2 (fun c2 => ?_) (fun c2 => ?_)
    · have el := two_fld n (of_decide_eq_true c2)
      refine ⟨_, rfl, _, rfl, by show 2 ≤ sizeLine; decide, fun r nr => q r _ (s1.trans (same_new nr)) ?_⟩
      rw [el]
      exact upd_same
    have e2 : n ∉ [Str.ofString "InvalidText", Str.ofString "NoTable"] := fun z => c2 (decide_eq_true z)
    refine ⟨(by show 9 ≤ sizeLine; decide), fun t2 n2 => ?_⟩
    have s2 := s1.trans (same_new (o := .tup (bareN.map V.str)) n2)
    refine ⟨_, rfl, _, rfl, t2, _, rfl, .inr (.inl (.inl upd_same)), rfl, rfl, _, rfl, ?_⟩
    rw [if_neg Bool.false_ne_true, show inV (V.str n) [V.str "InvalidStatement", V.str "InvalidQuestion", V.str "InvalidClaim", V.str "Standing", V.str "NotFitting", V.str "NotShown", V.str "OtherFinds", V.str "NoFinds", V.str "NothingLeft"] = decide (n ∈ bareN) from hin bareN]
    refine ite2 (fun c3 => ?_) (fun c3 => ?_)
    · have el := no_fld n (of_decide_eq_true c3)
      refine ⟨Nat.zero_le _, fun r nr => q r _ (s2.trans (same_new nr)) ?_⟩
      rw [el]
      exact upd_same
    · have el := one_fld n hn e1 e2 fun z => c3 (decide_eq_true z)
      refine ⟨_, rfl, by show 1 ≤ sizeLine; decide, fun r nr => q r _ (s2.trans (same_new nr)) ?_⟩
      rw [el]
      exact upd_same
end
end Th
namespace Th
open PySem PySem.Spec PyProof.Rows L2
theorem sc_l_kinds : FnScope ["_law_e"] ["_law_e"] (defScope s_l_kinds) := ⟨rfl, rfl, rfl, by decide +kernel, rfl, by decide +kernel, by decide +kernel⟩
def spKinds (K : PySem.W.Frag) (mg : Str → Option Value) : Sp := fun vs H Q _ => ∃ (v : V) (n : Str) (ds : List PyData), vs = [v] ∧ ExV K mg H v n ds ∧ n ∈ errN ∧ ∀ (L : Addr) H', Same H H' → H' L = some (.lst (errN.map fun m => V.bl (decide (n = m)))) → Q (.ref L) H'
section
variable {P : Program} {w : World} {K : PySem.W.Frag} {mg : Str → Option Value} {base : Heap} {CB : Addr}
theorem has_l_kinds (Z : Zs mg) (gK : (∀ (n m : Str) (Cn Cm : Addr), n ∈ errN → m ∈ errN → mg n = some (.ref Cn) → mg m = some (.ref Cm) → PySem.W.kitOne K (.ref Cn) (.ref Cm) = some (decide (n = m))) ∧ ∀ (n : Str) (C : Addr), n ∈ errN → mg n = some (.ref C) → ExcC K C) (A : At K mg "_law_kinds" s_l_kinds ["_law_e"]) (h_c_InvalidName_init : HasE0 P w K mg base "InvalidName" "InvalidName.__init__" s_c_InvalidName_init ["self", "value"] ["value", "code"] 7 (spInitN K "InvalidName" ["value"] 6)) (h_c_InvalidLot_init : HasE0 P w K mg base "InvalidLot" "InvalidLot.__init__" s_c_InvalidLot_init ["self", "at"] ["at", "code"] 7 (spInitN K "InvalidLot" ["at"] 6)) (h_c_InvalidFind_init : HasE0 P w K mg base "InvalidFind" "InvalidFind.__init__" s_c_InvalidFind_init ["self", "at"] ["at", "code"] 7 (spInitN K "InvalidFind" ["at"] 6)) (h_c_InvalidWord_init : HasE0 P w K mg base "InvalidWord" "InvalidWord.__init__" s_c_InvalidWord_init ["self", "at"] ["at", "code"] 7 (spInitN K "InvalidWord" ["at"] 6)) (h_c_InvalidFact_init : HasE0 P w K mg base "InvalidFact" "InvalidFact.__init__" s_c_InvalidFact_init ["self", "at"] ["at", "code"] 7 (spInitN K "InvalidFact" ["at"] 6)) (h_c_InvalidOrder_init : HasE0 P w K mg base "InvalidOrder" "InvalidOrder.__init__" s_c_InvalidOrder_init ["self", "at"] ["at", "code"] 7 (spInitN K "InvalidOrder" ["at"] 6)) (h_c_InvalidKind_init : HasE0 P w K mg base "InvalidKind" "InvalidKind.__init__" s_c_InvalidKind_init ["self", "at"] ["at", "code"] 7 (spInitN K "InvalidKind" ["at"] 6)) (h_c_InvalidPair_init : HasE0 P w K mg base "InvalidPair" "InvalidPair.__init__" s_c_InvalidPair_init ["self", "at"] ["at", "code"] 7 (spInitN K "InvalidPair" ["at"] 6)) (h_c_InvalidDeed_init : HasE0 P w K mg base "InvalidDeed" "InvalidDeed.__init__" s_c_InvalidDeed_init ["self", "at"] ["at", "code"] 7 (spInitN K "InvalidDeed" ["at"] 6)) (h_c_InvalidText_init : HasE0 P w K mg base "InvalidText" "InvalidText.__init__" s_c_InvalidText_init ["self", "line", "why"] ["line", "why", "code"] 7 (spInitN K "InvalidText" ["line", "why"] 6)) (h_c_InvalidNumber_init : HasE0 P w K mg base "InvalidNumber" "InvalidNumber.__init__" s_c_InvalidNumber_init ["self", "value"] ["value", "code"] 7 (spInitN K "InvalidNumber" ["value"] 6)) (h_c_InvalidStatement_init : HasE0 P w K mg base "InvalidStatement" "InvalidStatement.__init__" s_c_InvalidStatement_init ["self"] ["code"] 7 (spInitN K "InvalidStatement" [] 6)) (h_c_InvalidQuestion_init : HasE0 P w K mg base "InvalidQuestion" "InvalidQuestion.__init__" s_c_InvalidQuestion_init ["self"] ["code"] 7 (spInitN K "InvalidQuestion" [] 6)) (h_c_InvalidClaim_init : HasE0 P w K mg base "InvalidClaim" "InvalidClaim.__init__" s_c_InvalidClaim_init ["self"] ["code"] 7 (spInitN K "InvalidClaim" [] 6)) (h_c_InvalidTimes_init : HasE0 P w K mg base "InvalidTimes" "InvalidTimes.__init__" s_c_InvalidTimes_init ["self", "name"] ["name", "code"] 7 (spInitN K "InvalidTimes" ["name"] 6)) (h_c_InvalidWeights_init : HasE0 P w K mg base "InvalidWeights" "InvalidWeights.__init__" s_c_InvalidWeights_init ["self", "name"] ["name", "code"] 7 (spInitN K "InvalidWeights" ["name"] 6)) (h_c_DuplicateName_init : HasE0 P w K mg base "DuplicateName" "DuplicateName.__init__" s_c_DuplicateName_init ["self", "name"] ["name", "code"] 7 (spInitN K "DuplicateName" ["name"] 6)) (h_c_TooMany_init : HasE0 P w K mg base "TooMany" "TooMany.__init__" s_c_TooMany_init ["self", "most"] ["most", "code"] 7 (spInitN K "TooMany" ["most"] 6)) (h_c_TooFew_init : HasE0 P w K mg base "TooFew" "TooFew.__init__" s_c_TooFew_init ["self", "least"] ["least", "code"] 7 (spInitN K "TooFew" ["least"] 6)) (h_c_CannotStand_init : HasE0 P w K mg base "CannotStand" "CannotStand.__init__" s_c_CannotStand_init ["self", "one", "two", "three"] ["one", "two", "three", "code"] 7 (spInitN K "CannotStand" ["one", "two", "three"] 6)) (h_c_Standing_init : HasE0 P w K mg base "Standing" "Standing.__init__" s_c_Standing_init ["self"] ["code"] 7 (spInitN K "Standing" [] 6)) (h_c_Clash_init : HasE0 P w K mg base "Clash" "Clash.__init__" s_c_Clash_init ["self", "marks"] ["marks", "code"] 7 (spInitN K "Clash" ["marks"] 6)) (h_c_NotFitting_init : HasE0 P w K mg base "NotFitting" "NotFitting.__init__" s_c_NotFitting_init ["self"] ["code"] 7 (spInitN K "NotFitting" [] 6)) (h_c_NotShown_init : HasE0 P w K mg base "NotShown" "NotShown.__init__" s_c_NotShown_init ["self"] ["code"] 7 (spInitN K "NotShown" [] 6)) (h_c_NotABlock_init : HasE0 P w K mg base "NotABlock" "NotABlock.__init__" s_c_NotABlock_init ["self", "lot"] ["lot", "code"] 7 (spInitN K "NotABlock" ["lot"] 6)) (h_c_OtherFinds_init : HasE0 P w K mg base "OtherFinds" "OtherFinds.__init__" s_c_OtherFinds_init ["self"] ["code"] 7 (spInitN K "OtherFinds" [] 6)) (h_c_Same_init : HasE0 P w K mg base "Same" "Same.__init__" s_c_Same_init ["self", "name"] ["name", "code"] 7 (spInitN K "Same" ["name"] 6)) (h_c_NoTable_init : HasE0 P w K mg base "NoTable" "NoTable.__init__" s_c_NoTable_init ["self", "why", "found"] ["why", "found", "code"] 7 (spInitN K "NoTable" ["why", "found"] 6)) (h_c_Taken_init : HasE0 P w K mg base "Taken" "Taken.__init__" s_c_Taken_init ["self", "name"] ["name", "code"] 7 (spInitN K "Taken" ["name"] 6)) (h_c_InUse_init : HasE0 P w K mg base "InUse" "InUse.__init__" s_c_InUse_init ["self", "mark"] ["mark", "code"] 7 (spInitN K "InUse" ["mark"] 6)) (h_c_NoFinds_init : HasE0 P w K mg base "NoFinds" "NoFinds.__init__" s_c_NoFinds_init ["self"] ["code"] 7 (spInitN K "NoFinds" [] 6)) (h_c_UnknownName_init : HasE0 P w K mg base "UnknownName" "UnknownName.__init__" s_c_UnknownName_init ["self", "name"] ["name", "code"] 7 (spInitN K "UnknownName" ["name"] 6)) (h_c_UnknownFind_init : HasE0 P w K mg base "UnknownFind" "UnknownFind.__init__" s_c_UnknownFind_init ["self", "name"] ["name", "code"] 7 (spInitN K "UnknownFind" ["name"] 6)) (h_c_UnknownNode_init : HasE0 P w K mg base "UnknownNode" "UnknownNode.__init__" s_c_UnknownNode_init ["self", "lot"] ["lot", "code"] 7 (spInitN K "UnknownNode" ["lot"] 6)) (h_c_UnknownKept_init : HasE0 P w K mg base "UnknownKept" "UnknownKept.__init__" s_c_UnknownKept_init ["self", "at"] ["at", "code"] 7 (spInitN K "UnknownKept" ["at"] 6)) (h_c_NothingLeft_init : HasE0 P w K mg base "NothingLeft" "NothingLeft.__init__" s_c_NothingLeft_init ["self"] ["code"] 7 (spInitN K "NothingLeft" [] 6)) : Has P w K mg base "_law_kinds" s_l_kinds 8 ["_law_e"] (spKinds K mg) := by
  obtain ⟨f, fd, F, mg1, bd⟩ := A
  obtain ⟨C_c_InvalidName_init, fI_c_InvalidName_init, fd_c_InvalidName_init, E_c_InvalidName_init, G_c_InvalidName_init⟩ := h_c_InvalidName_init
  obtain ⟨C_c_InvalidLot_init, fI_c_InvalidLot_init, fd_c_InvalidLot_init, E_c_InvalidLot_init, G_c_InvalidLot_init⟩ := h_c_InvalidLot_init
  obtain ⟨C_c_InvalidFind_init, fI_c_InvalidFind_init, fd_c_InvalidFind_init, E_c_InvalidFind_init, G_c_InvalidFind_init⟩ := h_c_InvalidFind_init
  obtain ⟨C_c_InvalidWord_init, fI_c_InvalidWord_init, fd_c_InvalidWord_init, E_c_InvalidWord_init, G_c_InvalidWord_init⟩ := h_c_InvalidWord_init
  obtain ⟨C_c_InvalidFact_init, fI_c_InvalidFact_init, fd_c_InvalidFact_init, E_c_InvalidFact_init, G_c_InvalidFact_init⟩ := h_c_InvalidFact_init
  obtain ⟨C_c_InvalidOrder_init, fI_c_InvalidOrder_init, fd_c_InvalidOrder_init, E_c_InvalidOrder_init, G_c_InvalidOrder_init⟩ := h_c_InvalidOrder_init
  obtain ⟨C_c_InvalidKind_init, fI_c_InvalidKind_init, fd_c_InvalidKind_init, E_c_InvalidKind_init, G_c_InvalidKind_init⟩ := h_c_InvalidKind_init
  obtain ⟨C_c_InvalidPair_init, fI_c_InvalidPair_init, fd_c_InvalidPair_init, E_c_InvalidPair_init, G_c_InvalidPair_init⟩ := h_c_InvalidPair_init
  obtain ⟨C_c_InvalidDeed_init, fI_c_InvalidDeed_init, fd_c_InvalidDeed_init, E_c_InvalidDeed_init, G_c_InvalidDeed_init⟩ := h_c_InvalidDeed_init
  obtain ⟨C_c_InvalidText_init, fI_c_InvalidText_init, fd_c_InvalidText_init, E_c_InvalidText_init, G_c_InvalidText_init⟩ := h_c_InvalidText_init
  obtain ⟨C_c_InvalidNumber_init, fI_c_InvalidNumber_init, fd_c_InvalidNumber_init, E_c_InvalidNumber_init, G_c_InvalidNumber_init⟩ := h_c_InvalidNumber_init
  obtain ⟨C_c_InvalidStatement_init, fI_c_InvalidStatement_init, fd_c_InvalidStatement_init, E_c_InvalidStatement_init, G_c_InvalidStatement_init⟩ := h_c_InvalidStatement_init
  obtain ⟨C_c_InvalidQuestion_init, fI_c_InvalidQuestion_init, fd_c_InvalidQuestion_init, E_c_InvalidQuestion_init, G_c_InvalidQuestion_init⟩ := h_c_InvalidQuestion_init
  obtain ⟨C_c_InvalidClaim_init, fI_c_InvalidClaim_init, fd_c_InvalidClaim_init, E_c_InvalidClaim_init, G_c_InvalidClaim_init⟩ := h_c_InvalidClaim_init
  obtain ⟨C_c_InvalidTimes_init, fI_c_InvalidTimes_init, fd_c_InvalidTimes_init, E_c_InvalidTimes_init, G_c_InvalidTimes_init⟩ := h_c_InvalidTimes_init
  obtain ⟨C_c_InvalidWeights_init, fI_c_InvalidWeights_init, fd_c_InvalidWeights_init, E_c_InvalidWeights_init, G_c_InvalidWeights_init⟩ := h_c_InvalidWeights_init
  obtain ⟨C_c_DuplicateName_init, fI_c_DuplicateName_init, fd_c_DuplicateName_init, E_c_DuplicateName_init, G_c_DuplicateName_init⟩ := h_c_DuplicateName_init
  obtain ⟨C_c_TooMany_init, fI_c_TooMany_init, fd_c_TooMany_init, E_c_TooMany_init, G_c_TooMany_init⟩ := h_c_TooMany_init
  obtain ⟨C_c_TooFew_init, fI_c_TooFew_init, fd_c_TooFew_init, E_c_TooFew_init, G_c_TooFew_init⟩ := h_c_TooFew_init
  obtain ⟨C_c_CannotStand_init, fI_c_CannotStand_init, fd_c_CannotStand_init, E_c_CannotStand_init, G_c_CannotStand_init⟩ := h_c_CannotStand_init
  obtain ⟨C_c_Standing_init, fI_c_Standing_init, fd_c_Standing_init, E_c_Standing_init, G_c_Standing_init⟩ := h_c_Standing_init
  obtain ⟨C_c_Clash_init, fI_c_Clash_init, fd_c_Clash_init, E_c_Clash_init, G_c_Clash_init⟩ := h_c_Clash_init
  obtain ⟨C_c_NotFitting_init, fI_c_NotFitting_init, fd_c_NotFitting_init, E_c_NotFitting_init, G_c_NotFitting_init⟩ := h_c_NotFitting_init
  obtain ⟨C_c_NotShown_init, fI_c_NotShown_init, fd_c_NotShown_init, E_c_NotShown_init, G_c_NotShown_init⟩ := h_c_NotShown_init
  obtain ⟨C_c_NotABlock_init, fI_c_NotABlock_init, fd_c_NotABlock_init, E_c_NotABlock_init, G_c_NotABlock_init⟩ := h_c_NotABlock_init
  obtain ⟨C_c_OtherFinds_init, fI_c_OtherFinds_init, fd_c_OtherFinds_init, E_c_OtherFinds_init, G_c_OtherFinds_init⟩ := h_c_OtherFinds_init
  obtain ⟨C_c_Same_init, fI_c_Same_init, fd_c_Same_init, E_c_Same_init, G_c_Same_init⟩ := h_c_Same_init
  obtain ⟨C_c_NoTable_init, fI_c_NoTable_init, fd_c_NoTable_init, E_c_NoTable_init, G_c_NoTable_init⟩ := h_c_NoTable_init
  obtain ⟨C_c_Taken_init, fI_c_Taken_init, fd_c_Taken_init, E_c_Taken_init, G_c_Taken_init⟩ := h_c_Taken_init
  obtain ⟨C_c_InUse_init, fI_c_InUse_init, fd_c_InUse_init, E_c_InUse_init, G_c_InUse_init⟩ := h_c_InUse_init
  obtain ⟨C_c_NoFinds_init, fI_c_NoFinds_init, fd_c_NoFinds_init, E_c_NoFinds_init, G_c_NoFinds_init⟩ := h_c_NoFinds_init
  obtain ⟨C_c_UnknownName_init, fI_c_UnknownName_init, fd_c_UnknownName_init, E_c_UnknownName_init, G_c_UnknownName_init⟩ := h_c_UnknownName_init
  obtain ⟨C_c_UnknownFind_init, fI_c_UnknownFind_init, fd_c_UnknownFind_init, E_c_UnknownFind_init, G_c_UnknownFind_init⟩ := h_c_UnknownFind_init
  obtain ⟨C_c_UnknownNode_init, fI_c_UnknownNode_init, fd_c_UnknownNode_init, E_c_UnknownNode_init, G_c_UnknownNode_init⟩ := h_c_UnknownNode_init
  obtain ⟨C_c_UnknownKept_init, fI_c_UnknownKept_init, fd_c_UnknownKept_init, E_c_UnknownKept_init, G_c_UnknownKept_init⟩ := h_c_UnknownKept_init
  obtain ⟨C_c_NothingLeft_init, fI_c_NothingLeft_init, fd_c_NothingLeft_init, E_c_NothingLeft_init, G_c_NothingLeft_init⟩ := h_c_NothingLeft_init
  refine ⟨f, fd, ?_, mg1, F.kp, bd, F⟩
  refine F.ok sc_l_kinds (fun vs H Q E h => ?_) (fun cdv A outer s H vs Q E hr h => ?_)
  · obtain ⟨v, n, ds, rfl, _⟩ := h
    rfl
  · obtain ⟨v, n, ds, rfl, ⟨a, C, dx, ws, rfl, m, xf, nf, ea, ed, al, hl⟩, hn, q⟩ := h
    refine ⟨_, (pss_one (ps_ret (pe_lst (pa_cons (pe_callB call_isV (by rfl) Z.isinstance_ (by decide +kernel) (pa_cons (pv 0) (pa_cons (pe_glob (v := .ref C_c_InvalidName_init) (by rfl) E_c_InvalidName_init.m rfl) pa_nil))) (pa_cons (pe_callB call_isV (by rfl) Z.isinstance_ (by decide +kernel) (pa_cons (pv 0) (pa_cons (pe_glob (v := .ref C_c_InvalidLot_init) (by rfl) E_c_InvalidLot_init.m rfl) pa_nil))) (pa_cons (pe_callB call_isV (by rfl) Z.isinstance_ (by decide +kernel) (pa_cons (pv 0) (pa_cons (pe_glob (v := .ref C_c_InvalidFind_init) (by rfl) E_c_InvalidFind_init.m rfl) pa_nil))) (pa_cons (pe_callB call_isV (by rfl) Z.isinstance_ (by decide +kernel) (pa_cons (pv 0) (pa_cons (pe_glob (v := .ref C_c_InvalidWord_init) (by rfl) E_c_InvalidWord_init.m rfl) pa_nil))) (pa_cons (pe_callB call_isV (by rfl) Z.isinstance_ (by decide +kernel) (pa_cons (pv 0) (pa_cons (pe_glob (v := .ref C_c_InvalidFact_init) (by rfl) E_c_InvalidFact_init.m rfl) pa_nil))) (pa_cons (pe_callB call_isV (by rfl) Z.isinstance_ (by decide +kernel) (pa_cons (pv 0) (pa_cons (pe_glob (v := .ref C_c_InvalidOrder_init) (by rfl) E_c_InvalidOrder_init.m rfl) pa_nil))) (pa_cons (pe_callB call_isV (by rfl) Z.isinstance_ (by decide +kernel) (pa_cons (pv 0) (pa_cons (pe_glob (v := .ref C_c_InvalidKind_init) (by rfl) E_c_InvalidKind_init.m rfl) pa_nil))) (pa_cons (pe_callB call_isV (by rfl) Z.isinstance_ (by decide +kernel) (pa_cons (pv 0) (pa_cons (pe_glob (v := .ref C_c_InvalidPair_init) (by rfl) E_c_InvalidPair_init.m rfl) pa_nil))) (pa_cons (pe_callB call_isV (by rfl) Z.isinstance_ (by decide +kernel) (pa_cons (pv 0) (pa_cons (pe_glob (v := .ref C_c_InvalidDeed_init) (by rfl) E_c_InvalidDeed_init.m rfl) pa_nil))) (pa_cons (pe_callB call_isV (by rfl) Z.isinstance_ (by decide +kernel) (pa_cons (pv 0) (pa_cons (pe_glob (v := .ref C_c_InvalidText_init) (by rfl) E_c_InvalidText_init.m rfl) pa_nil))) (pa_cons (pe_callB call_isV (by rfl) Z.isinstance_ (by decide +kernel) (pa_cons (pv 0) (pa_cons (pe_glob (v := .ref C_c_InvalidNumber_init) (by rfl) E_c_InvalidNumber_init.m rfl) pa_nil))) (pa_cons (pe_callB call_isV (by rfl) Z.isinstance_ (by decide +kernel) (pa_cons (pv 0) (pa_cons (pe_glob (v := .ref C_c_InvalidStatement_init) (by rfl) E_c_InvalidStatement_init.m rfl) pa_nil))) (pa_cons (pe_callB call_isV (by rfl) Z.isinstance_ (by decide +kernel) (pa_cons (pv 0) (pa_cons (pe_glob (v := .ref C_c_InvalidQuestion_init) (by rfl) E_c_InvalidQuestion_init.m rfl) pa_nil))) (pa_cons (pe_callB call_isV (by rfl) Z.isinstance_ (by decide +kernel) (pa_cons (pv 0) (pa_cons (pe_glob (v := .ref C_c_InvalidClaim_init) (by rfl) E_c_InvalidClaim_init.m rfl) pa_nil))) (pa_cons (pe_callB call_isV (by rfl) Z.isinstance_ (by decide +kernel) (pa_cons (pv 0) (pa_cons (pe_glob (v := .ref C_c_InvalidTimes_init) (by rfl) E_c_InvalidTimes_init.m rfl) pa_nil))) (pa_cons (pe_callB call_isV (by rfl) Z.isinstance_ (by decide +kernel) (pa_cons (pv 0) (pa_cons (pe_glob (v := .ref C_c_InvalidWeights_init) (by rfl) E_c_InvalidWeights_init.m rfl) pa_nil))) (pa_cons (pe_callB call_isV (by rfl) Z.isinstance_ (by decide +kernel) (pa_cons (pv 0) (pa_cons (pe_glob (v := .ref C_c_DuplicateName_init) (by rfl) E_c_DuplicateName_init.m rfl) pa_nil))) (pa_cons (pe_callB call_isV (by rfl) Z.isinstance_ (by decide +kernel) (pa_cons (pv 0) (pa_cons (pe_glob (v := .ref C_c_TooMany_init) (by rfl) E_c_TooMany_init.m rfl) pa_nil))) (pa_cons (pe_callB call_isV (by rfl) Z.isinstance_ (by decide +kernel) (pa_cons (pv 0) (pa_cons (pe_glob (v := .ref C_c_TooFew_init) (by rfl) E_c_TooFew_init.m rfl) pa_nil))) (pa_cons (pe_callB call_isV (by rfl) Z.isinstance_ (by decide +kernel) (pa_cons (pv 0) (pa_cons (pe_glob (v := .ref C_c_CannotStand_init) (by rfl) E_c_CannotStand_init.m rfl) pa_nil))) (pa_cons (pe_callB call_isV (by rfl) Z.isinstance_ (by decide +kernel) (pa_cons (pv 0) (pa_cons (pe_glob (v := .ref C_c_Standing_init) (by rfl) E_c_Standing_init.m rfl) pa_nil))) (pa_cons (pe_callB call_isV (by rfl) Z.isinstance_ (by decide +kernel) (pa_cons (pv 0) (pa_cons (pe_glob (v := .ref C_c_Clash_init) (by rfl) E_c_Clash_init.m rfl) pa_nil))) (pa_cons (pe_callB call_isV (by rfl) Z.isinstance_ (by decide +kernel) (pa_cons (pv 0) (pa_cons (pe_glob (v := .ref C_c_NotFitting_init) (by rfl) E_c_NotFitting_init.m rfl) pa_nil))) (pa_cons (pe_callB call_isV (by rfl) Z.isinstance_ (by decide +kernel) (pa_cons (pv 0) (pa_cons (pe_glob (v := .ref C_c_NotShown_init) (by rfl) E_c_NotShown_init.m rfl) pa_nil))) (pa_cons (pe_callB call_isV (by rfl) Z.isinstance_ (by decide +kernel) (pa_cons (pv 0) (pa_cons (pe_glob (v := .ref C_c_NotABlock_init) (by rfl) E_c_NotABlock_init.m rfl) pa_nil))) (pa_cons (pe_callB call_isV (by rfl) Z.isinstance_ (by decide +kernel) (pa_cons (pv 0) (pa_cons (pe_glob (v := .ref C_c_OtherFinds_init) (by rfl) E_c_OtherFinds_init.m rfl) pa_nil))) (pa_cons (pe_callB call_isV (by rfl) Z.isinstance_ (by decide +kernel) (pa_cons (pv 0) (pa_cons (pe_glob (v := .ref C_c_Same_init) (by rfl) E_c_Same_init.m rfl) pa_nil))) (pa_cons (pe_callB call_isV (by rfl) Z.isinstance_ (by decide +kernel) (pa_cons (pv 0) (pa_cons (pe_glob (v := .ref C_c_NoTable_init) (by rfl) E_c_NoTable_init.m rfl) pa_nil))) (pa_cons (pe_callB call_isV (by rfl) Z.isinstance_ (by decide +kernel) (pa_cons (pv 0) (pa_cons (pe_glob (v := .ref C_c_Taken_init) (by rfl) E_c_Taken_init.m rfl) pa_nil))) (pa_cons (pe_callB call_isV (by rfl) Z.isinstance_ (by decide +kernel) (pa_cons (pv 0) (pa_cons (pe_glob (v := .ref C_c_InUse_init) (by rfl) E_c_InUse_init.m rfl) pa_nil))) (pa_cons (pe_callB call_isV (by rfl) Z.isinstance_ (by decide +kernel) (pa_cons (pv 0) (pa_cons (pe_glob (v := .ref C_c_NoFinds_init) (by rfl) E_c_NoFinds_init.m rfl) pa_nil))) (pa_cons (pe_callB call_isV (by rfl) Z.isinstance_ (by decide +kernel) (pa_cons (pv 0) (pa_cons (pe_glob (v := .ref C_c_UnknownName_init) (by rfl) E_c_UnknownName_init.m rfl) pa_nil))) (pa_cons (pe_callB call_isV (by rfl) Z.isinstance_ (by decide +kernel) (pa_cons (pv 0) (pa_cons (pe_glob (v := .ref C_c_UnknownFind_init) (by rfl) E_c_UnknownFind_init.m rfl) pa_nil))) (pa_cons (pe_callB call_isV (by rfl) Z.isinstance_ (by decide +kernel) (pa_cons (pv 0) (pa_cons (pe_glob (v := .ref C_c_UnknownNode_init) (by rfl) E_c_UnknownNode_init.m rfl) pa_nil))) (pa_cons (pe_callB call_isV (by rfl) Z.isinstance_ (by decide +kernel) (pa_cons (pv 0) (pa_cons (pe_glob (v := .ref C_c_UnknownKept_init) (by rfl) E_c_UnknownKept_init.m rfl) pa_nil))) (pa_cons (pe_callB call_isV (by rfl) Z.isinstance_ (by decide +kernel) (pa_cons (pv 0) (pa_cons (pe_glob (v := .ref C_c_NothingLeft_init) (by rfl) E_c_NothingLeft_init.m rfl) pa_nil))) pa_nil))))))))))))))))))))))))))))))))))))))), ?_⟩
    refine ⟨_, rfl, a, C, some dx, .ref C_c_InvalidName_init, .ref C_c_InvalidName_init, decide (n = "InvalidName"), rfl, ⟨dx, _, rfl, ed⟩, ea, gK.2 n C hn m, fun u r => r, gK.1 n _ C _ hn (by decide +kernel) m E_c_InvalidName_init.m, ?_⟩
    refine ⟨_, rfl, a, C, some dx, .ref C_c_InvalidLot_init, .ref C_c_InvalidLot_init, decide (n = "InvalidLot"), rfl, ⟨dx, _, rfl, ed⟩, ea, gK.2 n C hn m, fun u r => r, gK.1 n _ C _ hn (by decide +kernel) m E_c_InvalidLot_init.m, ?_⟩
    refine ⟨_, rfl, a, C, some dx, .ref C_c_InvalidFind_init, .ref C_c_InvalidFind_init, decide (n = "InvalidFind"), rfl, ⟨dx, _, rfl, ed⟩, ea, gK.2 n C hn m, fun u r => r, gK.1 n _ C _ hn (by decide +kernel) m E_c_InvalidFind_init.m, ?_⟩
    refine ⟨_, rfl, a, C, some dx, .ref C_c_InvalidWord_init, .ref C_c_InvalidWord_init, decide (n = "InvalidWord"), rfl, ⟨dx, _, rfl, ed⟩, ea, gK.2 n C hn m, fun u r => r, gK.1 n _ C _ hn (by decide +kernel) m E_c_InvalidWord_init.m, ?_⟩
    refine ⟨_, rfl, a, C, some dx, .ref C_c_InvalidFact_init, .ref C_c_InvalidFact_init, decide (n = "InvalidFact"), rfl, ⟨dx, _, rfl, ed⟩, ea, gK.2 n C hn m, fun u r => r, gK.1 n _ C _ hn (by decide +kernel) m E_c_InvalidFact_init.m, ?_⟩
    refine ⟨_, rfl, a, C, some dx, .ref C_c_InvalidOrder_init, .ref C_c_InvalidOrder_init, decide (n = "InvalidOrder"), rfl, ⟨dx, _, rfl, ed⟩, ea, gK.2 n C hn m, fun u r => r, gK.1 n _ C _ hn (by decide +kernel) m E_c_InvalidOrder_init.m, ?_⟩
    refine ⟨_, rfl, a, C, some dx, .ref C_c_InvalidKind_init, .ref C_c_InvalidKind_init, decide (n = "InvalidKind"), rfl, ⟨dx, _, rfl, ed⟩, ea, gK.2 n C hn m, fun u r => r, gK.1 n _ C _ hn (by decide +kernel) m E_c_InvalidKind_init.m, ?_⟩
    refine ⟨_, rfl, a, C, some dx, .ref C_c_InvalidPair_init, .ref C_c_InvalidPair_init, decide (n = "InvalidPair"), rfl, ⟨dx, _, rfl, ed⟩, ea, gK.2 n C hn m, fun u r => r, gK.1 n _ C _ hn (by decide +kernel) m E_c_InvalidPair_init.m, ?_⟩
    refine ⟨_, rfl, a, C, some dx, .ref C_c_InvalidDeed_init, .ref C_c_InvalidDeed_init, decide (n = "InvalidDeed"), rfl, ⟨dx, _, rfl, ed⟩, ea, gK.2 n C hn m, fun u r => r, gK.1 n _ C _ hn (by decide +kernel) m E_c_InvalidDeed_init.m, ?_⟩
    refine ⟨_, rfl, a, C, some dx, .ref C_c_InvalidText_init, .ref C_c_InvalidText_init, decide (n = "InvalidText"), rfl, ⟨dx, _, rfl, ed⟩, ea, gK.2 n C hn m, fun u r => r, gK.1 n _ C _ hn (by decide +kernel) m E_c_InvalidText_init.m, ?_⟩
    refine ⟨_, rfl, a, C, some dx, .ref C_c_InvalidNumber_init, .ref C_c_InvalidNumber_init, decide (n = "InvalidNumber"), rfl, ⟨dx, _, rfl, ed⟩, ea, gK.2 n C hn m, fun u r => r, gK.1 n _ C _ hn (by decide +kernel) m E_c_InvalidNumber_init.m, ?_⟩
    refine ⟨_, rfl, a, C, some dx, .ref C_c_InvalidStatement_init, .ref C_c_InvalidStatement_init, decide (n = "InvalidStatement"), rfl, ⟨dx, _, rfl, ed⟩, ea, gK.2 n C hn m, fun u r => r, gK.1 n _ C _ hn (by decide +kernel) m E_c_InvalidStatement_init.m, ?_⟩
    refine ⟨_, rfl, a, C, some dx, .ref C_c_InvalidQuestion_init, .ref C_c_InvalidQuestion_init, decide (n = "InvalidQuestion"), rfl, ⟨dx, _, rfl, ed⟩, ea, gK.2 n C hn m, fun u r => r, gK.1 n _ C _ hn (by decide +kernel) m E_c_InvalidQuestion_init.m, ?_⟩
    refine ⟨_, rfl, a, C, some dx, .ref C_c_InvalidClaim_init, .ref C_c_InvalidClaim_init, decide (n = "InvalidClaim"), rfl, ⟨dx, _, rfl, ed⟩, ea, gK.2 n C hn m, fun u r => r, gK.1 n _ C _ hn (by decide +kernel) m E_c_InvalidClaim_init.m, ?_⟩
    refine ⟨_, rfl, a, C, some dx, .ref C_c_InvalidTimes_init, .ref C_c_InvalidTimes_init, decide (n = "InvalidTimes"), rfl, ⟨dx, _, rfl, ed⟩, ea, gK.2 n C hn m, fun u r => r, gK.1 n _ C _ hn (by decide +kernel) m E_c_InvalidTimes_init.m, ?_⟩
    refine ⟨_, rfl, a, C, some dx, .ref C_c_InvalidWeights_init, .ref C_c_InvalidWeights_init, decide (n = "InvalidWeights"), rfl, ⟨dx, _, rfl, ed⟩, ea, gK.2 n C hn m, fun u r => r, gK.1 n _ C _ hn (by decide +kernel) m E_c_InvalidWeights_init.m, ?_⟩
    refine ⟨_, rfl, a, C, some dx, .ref C_c_DuplicateName_init, .ref C_c_DuplicateName_init, decide (n = "DuplicateName"), rfl, ⟨dx, _, rfl, ed⟩, ea, gK.2 n C hn m, fun u r => r, gK.1 n _ C _ hn (by decide +kernel) m E_c_DuplicateName_init.m, ?_⟩
    refine ⟨_, rfl, a, C, some dx, .ref C_c_TooMany_init, .ref C_c_TooMany_init, decide (n = "TooMany"), rfl, ⟨dx, _, rfl, ed⟩, ea, gK.2 n C hn m, fun u r => r, gK.1 n _ C _ hn (by decide +kernel) m E_c_TooMany_init.m, ?_⟩
    refine ⟨_, rfl, a, C, some dx, .ref C_c_TooFew_init, .ref C_c_TooFew_init, decide (n = "TooFew"), rfl, ⟨dx, _, rfl, ed⟩, ea, gK.2 n C hn m, fun u r => r, gK.1 n _ C _ hn (by decide +kernel) m E_c_TooFew_init.m, ?_⟩
    refine ⟨_, rfl, a, C, some dx, .ref C_c_CannotStand_init, .ref C_c_CannotStand_init, decide (n = "CannotStand"), rfl, ⟨dx, _, rfl, ed⟩, ea, gK.2 n C hn m, fun u r => r, gK.1 n _ C _ hn (by decide +kernel) m E_c_CannotStand_init.m, ?_⟩
    refine ⟨_, rfl, a, C, some dx, .ref C_c_Standing_init, .ref C_c_Standing_init, decide (n = "Standing"), rfl, ⟨dx, _, rfl, ed⟩, ea, gK.2 n C hn m, fun u r => r, gK.1 n _ C _ hn (by decide +kernel) m E_c_Standing_init.m, ?_⟩
    refine ⟨_, rfl, a, C, some dx, .ref C_c_Clash_init, .ref C_c_Clash_init, decide (n = "Clash"), rfl, ⟨dx, _, rfl, ed⟩, ea, gK.2 n C hn m, fun u r => r, gK.1 n _ C _ hn (by decide +kernel) m E_c_Clash_init.m, ?_⟩
    refine ⟨_, rfl, a, C, some dx, .ref C_c_NotFitting_init, .ref C_c_NotFitting_init, decide (n = "NotFitting"), rfl, ⟨dx, _, rfl, ed⟩, ea, gK.2 n C hn m, fun u r => r, gK.1 n _ C _ hn (by decide +kernel) m E_c_NotFitting_init.m, ?_⟩
    refine ⟨_, rfl, a, C, some dx, .ref C_c_NotShown_init, .ref C_c_NotShown_init, decide (n = "NotShown"), rfl, ⟨dx, _, rfl, ed⟩, ea, gK.2 n C hn m, fun u r => r, gK.1 n _ C _ hn (by decide +kernel) m E_c_NotShown_init.m, ?_⟩
    refine ⟨_, rfl, a, C, some dx, .ref C_c_NotABlock_init, .ref C_c_NotABlock_init, decide (n = "NotABlock"), rfl, ⟨dx, _, rfl, ed⟩, ea, gK.2 n C hn m, fun u r => r, gK.1 n _ C _ hn (by decide +kernel) m E_c_NotABlock_init.m, ?_⟩
    refine ⟨_, rfl, a, C, some dx, .ref C_c_OtherFinds_init, .ref C_c_OtherFinds_init, decide (n = "OtherFinds"), rfl, ⟨dx, _, rfl, ed⟩, ea, gK.2 n C hn m, fun u r => r, gK.1 n _ C _ hn (by decide +kernel) m E_c_OtherFinds_init.m, ?_⟩
    refine ⟨_, rfl, a, C, some dx, .ref C_c_Same_init, .ref C_c_Same_init, decide (n = "Same"), rfl, ⟨dx, _, rfl, ed⟩, ea, gK.2 n C hn m, fun u r => r, gK.1 n _ C _ hn (by decide +kernel) m E_c_Same_init.m, ?_⟩
    refine ⟨_, rfl, a, C, some dx, .ref C_c_NoTable_init, .ref C_c_NoTable_init, decide (n = "NoTable"), rfl, ⟨dx, _, rfl, ed⟩, ea, gK.2 n C hn m, fun u r => r, gK.1 n _ C _ hn (by decide +kernel) m E_c_NoTable_init.m, ?_⟩
    refine ⟨_, rfl, a, C, some dx, .ref C_c_Taken_init, .ref C_c_Taken_init, decide (n = "Taken"), rfl, ⟨dx, _, rfl, ed⟩, ea, gK.2 n C hn m, fun u r => r, gK.1 n _ C _ hn (by decide +kernel) m E_c_Taken_init.m, ?_⟩
    refine ⟨_, rfl, a, C, some dx, .ref C_c_InUse_init, .ref C_c_InUse_init, decide (n = "InUse"), rfl, ⟨dx, _, rfl, ed⟩, ea, gK.2 n C hn m, fun u r => r, gK.1 n _ C _ hn (by decide +kernel) m E_c_InUse_init.m, ?_⟩
    refine ⟨_, rfl, a, C, some dx, .ref C_c_NoFinds_init, .ref C_c_NoFinds_init, decide (n = "NoFinds"), rfl, ⟨dx, _, rfl, ed⟩, ea, gK.2 n C hn m, fun u r => r, gK.1 n _ C _ hn (by decide +kernel) m E_c_NoFinds_init.m, ?_⟩
    refine ⟨_, rfl, a, C, some dx, .ref C_c_UnknownName_init, .ref C_c_UnknownName_init, decide (n = "UnknownName"), rfl, ⟨dx, _, rfl, ed⟩, ea, gK.2 n C hn m, fun u r => r, gK.1 n _ C _ hn (by decide +kernel) m E_c_UnknownName_init.m, ?_⟩
    refine ⟨_, rfl, a, C, some dx, .ref C_c_UnknownFind_init, .ref C_c_UnknownFind_init, decide (n = "UnknownFind"), rfl, ⟨dx, _, rfl, ed⟩, ea, gK.2 n C hn m, fun u r => r, gK.1 n _ C _ hn (by decide +kernel) m E_c_UnknownFind_init.m, ?_⟩
    refine ⟨_, rfl, a, C, some dx, .ref C_c_UnknownNode_init, .ref C_c_UnknownNode_init, decide (n = "UnknownNode"), rfl, ⟨dx, _, rfl, ed⟩, ea, gK.2 n C hn m, fun u r => r, gK.1 n _ C _ hn (by decide +kernel) m E_c_UnknownNode_init.m, ?_⟩
    refine ⟨_, rfl, a, C, some dx, .ref C_c_UnknownKept_init, .ref C_c_UnknownKept_init, decide (n = "UnknownKept"), rfl, ⟨dx, _, rfl, ed⟩, ea, gK.2 n C hn m, fun u r => r, gK.1 n _ C _ hn (by decide +kernel) m E_c_UnknownKept_init.m, ?_⟩
    refine ⟨_, rfl, a, C, some dx, .ref C_c_NothingLeft_init, .ref C_c_NothingLeft_init, decide (n = "NothingLeft"), rfl, ⟨dx, _, rfl, ed⟩, ea, gK.2 n C hn m, fun u r => r, gK.1 n _ C _ hn (by decide +kernel) m E_c_NothingLeft_init.m, ?_⟩
    exact ⟨by show 36 ≤ sizeLine; decide, fun L nL => q L _ (same_new nL) upd_same⟩
end
end Th
namespace Th
open PySem PySem.Spec PyProof.Rows L2
theorem sc_l_bases : FnScope ["_law_e"] ["_law_e"] (defScope s_l_bases) := ⟨rfl, rfl, rfl, by decide +kernel, rfl, by decide +kernel, by decide +kernel⟩
def basesN (n : Str) : List Bool := [findB n, findB n, missB n, missB n || lastB n, lastB n, false]
def spBases (K : PySem.W.Frag) (mg : Str → Option Value) : Sp := fun vs H Q _ => ∃ (v : V) (n : Str) (ds : List PyData), vs = [v] ∧ ExV K mg H v n ds ∧ n ∈ errN ∧ ∀ (L : Addr) H', Same H H' → H' L = some (.lst ((basesN n).map V.bl)) → Q (.ref L) H'
section
variable {P : Program} {w : World} {K : PySem.W.Frag} {mg : Str → Option Value} {base : Heap} {CB : Addr}
theorem has_l_bases (Z : Zs mg) (gK : (∀ (n m : Str) (Cn Cm : Addr), n ∈ errN → m ∈ errN → mg n = some (.ref Cn) → mg m = some (.ref Cm) → PySem.W.kitOne K (.ref Cn) (.ref Cm) = some (decide (n = m))) ∧ ∀ (n : Str) (C : Addr), n ∈ errN → mg n = some (.ref C) → ExcC K C) (gFE : ∃ c, mg "FindError" = some (.ref c) ∧ ∀ (n : Str) (C : Addr), n ∈ errN → mg n = some (.ref C) → PySem.W.kitOne K (.ref C) (.ref c) = some (findB n)) (gMI : ∃ c, mg "Missing" = some (.ref c) ∧ ∀ (n : Str) (C : Addr), n ∈ errN → mg n = some (.ref C) → PySem.W.kitOne K (.ref C) (.ref c) = some (missB n)) (gVE : mg "ValueError" = none ∧ ∀ (n : Str) (C : Addr), n ∈ errN → mg n = some (.ref C) → PySem.W.kitOne K (.ref C) (.type "ValueError") = some (findB n)) (gLE : mg "LookupError" = none ∧ ∀ (n : Str) (C : Addr), n ∈ errN → mg n = some (.ref C) → PySem.W.kitOne K (.ref C) (.type "LookupError") = some (missB n || lastB n)) (gIE : mg "IndexError" = none ∧ ∀ (n : Str) (C : Addr), n ∈ errN → mg n = some (.ref C) → PySem.W.kitOne K (.ref C) (.type "IndexError") = some (lastB n)) (gKE : mg "KeyError" = none ∧ ∀ (n : Str) (C : Addr), n ∈ errN → mg n = some (.ref C) → PySem.W.kitOne K (.ref C) (.type "KeyError") = some false) (A : At K mg "_law_bases" s_l_bases ["_law_e"]) : Has P w K mg base "_law_bases" s_l_bases 8 ["_law_e"] (spBases K mg) := by
  obtain ⟨f, fd, F, mg1, bd⟩ := A
  obtain ⟨cF, mF, kF⟩ := gFE
  obtain ⟨cM, mM, kM⟩ := gMI
  refine ⟨f, fd, ?_, mg1, F.kp, bd, F⟩
  refine F.ok sc_l_bases (fun vs H Q E h => ?_) (fun cdv A outer s H vs Q E hr h => ?_)
  · obtain ⟨v, n, ds, rfl, _⟩ := h
    rfl
  · obtain ⟨v, n, ds, rfl, ⟨a, C, dx, ws, rfl, m, xf, nf, ea, ed, al, hl⟩, hn, q⟩ := h
    refine ⟨_, (pss_one (ps_ret (pe_lst (pa_cons (pe_callB call_isV (by rfl) Z.isinstance_ (by decide +kernel) (pa_cons (pv 0) (pa_cons (pe_glob (v := .ref cF) (by rfl) mF rfl) pa_nil))) (pa_cons (pe_callB call_isV (by rfl) Z.isinstance_ (by decide +kernel) (pa_cons (pv 0) (pa_cons (pe_bltn (v := .ty "ValueError") (by rfl) gVE.1 (by decide +kernel) rfl) pa_nil))) (pa_cons (pe_callB call_isV (by rfl) Z.isinstance_ (by decide +kernel) (pa_cons (pv 0) (pa_cons (pe_glob (v := .ref cM) (by rfl) mM rfl) pa_nil))) (pa_cons (pe_callB call_isV (by rfl) Z.isinstance_ (by decide +kernel) (pa_cons (pv 0) (pa_cons (pe_bltn (v := .ty "LookupError") (by rfl) gLE.1 (by decide +kernel) rfl) pa_nil))) (pa_cons (pe_callB call_isV (by rfl) Z.isinstance_ (by decide +kernel) (pa_cons (pv 0) (pa_cons (pe_bltn (v := .ty "IndexError") (by rfl) gIE.1 (by decide +kernel) rfl) pa_nil))) (pa_cons (pe_callB call_isV (by rfl) Z.isinstance_ (by decide +kernel) (pa_cons (pv 0) (pa_cons (pe_bltn (v := .ty "KeyError") (by rfl) gKE.1 (by decide +kernel) rfl) pa_nil))) pa_nil))))))))), ?_⟩
    refine ⟨_, rfl, a, C, some dx, .ref cF, .ref cF, findB n, rfl, ⟨dx, _, rfl, ed⟩, ea, gK.2 n C hn m, fun u r => r, kF n C hn m, ?_⟩
    refine ⟨_, rfl, a, C, some dx, .ty "ValueError", .type "ValueError", findB n, rfl, ⟨dx, _, rfl, ed⟩, ea, gK.2 n C hn m, fun u r => r, gVE.2 n C hn m, ?_⟩
    refine ⟨_, rfl, a, C, some dx, .ref cM, .ref cM, missB n, rfl, ⟨dx, _, rfl, ed⟩, ea, gK.2 n C hn m, fun u r => r, kM n C hn m, ?_⟩
    refine ⟨_, rfl, a, C, some dx, .ty "LookupError", .type "LookupError", missB n || lastB n, rfl, ⟨dx, _, rfl, ed⟩, ea, gK.2 n C hn m, fun u r => r, gLE.2 n C hn m, ?_⟩
    refine ⟨_, rfl, a, C, some dx, .ty "IndexError", .type "IndexError", lastB n, rfl, ⟨dx, _, rfl, ed⟩, ea, gK.2 n C hn m, fun u r => r, gIE.2 n C hn m, ?_⟩
    refine ⟨_, rfl, a, C, some dx, .ty "KeyError", .type "KeyError", false, rfl, ⟨dx, _, rfl, ed⟩, ea, gK.2 n C hn m, fun u r => r, gKE.2 n C hn m, ?_⟩
    exact ⟨by show 6 ≤ sizeLine; decide, fun L nL => q L _ (same_new nL) upd_same⟩
end
end Th
namespace Th
open PySem PySem.Spec PyProof.Rows L2
theorem sc_l_all_so : FnScope ["_law_made", "_law_x", "_law_y", "_law_z", "_law_codes_here", "_law_k", "_law_j", "_law_bases_here"] ["_law_made", "_law_x", "_law_y", "_law_z"] (defScope s_l_all_so) := ⟨rfl, rfl, rfl, by decide +kernel, rfl, by decide +kernel, by decide +kernel⟩
def spAllE (K : PySem.W.Frag) (mg : Str → Option Value) : Sp := fun vs H Q _ => ∃ (L : Addr) (us : List V) (x y z : V) (dx dy dz : PyData), vs = [.ref L, x, y, z] ∧ H L = some (.lst us) ∧ ExAll K mg H dx dy dz us errN ∧ Da K H x dx ∧ Da K H y dy ∧ Da K H z dz ∧ LvN 4 dx ∧ LvN 4 dy ∧ LvN 4 dz ∧
  ∀ H', Same H H' → Q (.bl true) H'
theorem kinds_eq : ∀ k : Nat, k < 36 → errN.map (fun m => decide (errN.getD k Str.empty = m)) = (List.range 36).map fun j => decide (j = k) := by decide +kernel
theorem bases_eq : ∀ k : Nat, k < 36 → basesN (errN.getD k Str.empty) = if k < 31 then [true, true, false, false, false, false] else if k < 35 then [false, false, true, true, false, false] else [false, false, false, true, true, false] := by decide +kernel
theorem err_lv : ∀ n ∈ errN, n.length ≤ 100000 ∧ PyData.strOk n = true := by decide +kernel
theorem eqv_bls : ∀ xs ys : List Bool, PyData.eqvAll (xs.map .bool) (ys.map .bool) = decide (xs = ys)
  | [], [] => by simp [PyData.eqvAll]
  | [], _ :: _ => by simp [PyData.eqvAll]
  | _ :: _, [] => by simp [PyData.eqvAll]
  | x :: xs, y :: ys => by
    rw [List.map_cons, List.map_cons]
    show (PyData.eqv (.bool x) (.bool y) && PyData.eqvAll (xs.map .bool) (ys.map .bool)) = _
    rw [eqv_bls xs ys]
    cases x <;> cases y <;> simp [PyData.eqv]
theorem eqv_bl (xs : List Bool) : PyData.eqv (.list (xs.map .bool)) (.list (xs.map .bool)) = true := by
  simp only [PyData.eqv]
  rw [eqv_bls, decide_eq_true rfl]
theorem lv_bls (xs : List Bool) (h : xs.length ≤ 60) : Lv 4 (.list (xs.map .bool)) := ⟨by rw [List.length_map]; exact h, fun e he => by
  obtain ⟨b, _, rfl⟩ := List.mem_map.mp he
  trivial⟩
section
variable {P : Program} {w : World} {K : PySem.W.Frag} {mg : Str → Option Value} {base : Heap} {CB : Addr}
theorem has_l_all_so (Z : Zs mg) (A : At K mg "_law_all_so" s_l_all_so ["_law_made", "_law_x", "_law_y", "_law_z"]) (h_l_codes : Has P w K mg base "_law_codes" s_l_codes 1 [] (spCodes)) (h_l_same : Has P w K mg base "_law_same" s_l_same 6 ["_law_got", "_law_due_here"] (spSm K 6)) (h_l_told : Has P w K mg base "_law_told" s_l_told 1 ["_law_e", "_law_code"] (spToldE K mg)) (h_l_due : Has P w K mg base "_law_due" s_l_due 1 ["_law_code", "_law_x", "_law_y", "_law_z"] (spDueE)) (h_l_kinds : Has P w K mg base "_law_kinds" s_l_kinds 8 ["_law_e"] (spKinds K mg)) (h_l_bases : Has P w K mg base "_law_bases" s_l_bases 8 ["_law_e"] (spBases K mg)) : Has P w K mg base "_law_all_so" s_l_all_so 12 ["_law_made", "_law_x", "_law_y", "_law_z"] (spAllE K mg) := by
  obtain ⟨f, fd, F, mg1, bd⟩ := A
  obtain ⟨f_l_codes, fd_l_codes, G_l_codes, m_l_codes, k_l_codes, b_l_codes, F_l_codes⟩ := h_l_codes
  obtain ⟨f_l_same, fd_l_same, G_l_same, m_l_same, k_l_same, b_l_same, F_l_same⟩ := h_l_same
  obtain ⟨f_l_told, fd_l_told, G_l_told, m_l_told, k_l_told, b_l_told, F_l_told⟩ := h_l_told
  obtain ⟨f_l_due, fd_l_due, G_l_due, m_l_due, k_l_due, b_l_due, F_l_due⟩ := h_l_due
  obtain ⟨f_l_kinds, fd_l_kinds, G_l_kinds, m_l_kinds, k_l_kinds, b_l_kinds, F_l_kinds⟩ := h_l_kinds
  obtain ⟨f_l_bases, fd_l_bases, G_l_bases, m_l_bases, k_l_bases, b_l_bases, F_l_bases⟩ := h_l_bases
  refine ⟨f, fd, ?_, mg1, F.kp, bd, F⟩
  refine F.ok sc_l_all_so (fun vs H Q E h => ?_) (fun cdv A outer s H vs Q E hr h => ?_)
  · obtain ⟨L, us, x, y, z, dx, dy, dz, rfl, _⟩ := h
    rfl
  · obtain ⟨L, us, x, y, z, dx, dy, dz, rfl, eL, ex, rx, ry, rz, lx, ly, lz, q⟩ := h
    refine ⟨_, (pss_cons (ps_set (i := 4) sc_l_all_so.nd rfl (Or.inl rfl) (pe_call0 G_l_codes (hr.mono (by decide)) (by rfl) m_l_codes k_l_codes b_l_codes .nil pass0)) (pss_cons (ps_for PassesOwn.never rfl (pi_range1 (by rfl) Z.range_ (pa_cons (pe_callB call_len_seq (by rfl) Z.len_ (by decide +kernel) (pa_cons (pv 4) pa_nil)) pa_nil)) (pg_name (i := 5) sc_l_all_so.nd rfl (Or.inr rfl)) (pss_cons (ps_if (pt_not (pt_val (pe_call G_l_same (hr.mono (by decide)) (by rfl) m_l_same k_l_same b_l_same .nil pass0 (pa_cons (pe_lst (pa_cons (pe_xfV (pe_ix ix_list (pv 0) (pv 5) (fun _ _ => rfl))) pa_nil)) (pa_cons (pe_lst (pa_cons (pe_ix ix_list (pv 4) (pv 5) (fun _ _ => rfl)) pa_nil)) pa_nil))))) (pss_one (ps_ret pe_bl)) pss_nil) (pss_cons (ps_if (pt_not (pt_val (pe_call G_l_same (hr.mono (by decide)) (by rfl) m_l_same k_l_same b_l_same .nil pass0 (pa_cons (pe_call G_l_told (hr.mono (by decide)) (by rfl) m_l_told k_l_told b_l_told .nil pass0 (pa_cons (pe_ix ix_list (pv 0) (pv 5) (fun _ _ => rfl)) (pa_cons (pe_ix ix_list (pv 4) (pv 5) (fun _ _ => rfl)) pa_nil))) (pa_cons (pe_call G_l_due (hr.mono (by decide)) (by rfl) m_l_due k_l_due b_l_due .nil pass0 (pa_cons (pe_ix ix_list (pv 4) (pv 5) (fun _ _ => rfl)) (pa_cons (pv 1) (pa_cons (pv 2) (pa_cons (pv 3) pa_nil))))) pa_nil))))) (pss_one (ps_ret pe_bl)) pss_nil) (pss_cons (ps_if (pt_cmpR (op_neD hr.units) (pe_call G_l_kinds (hr.mono (by decide)) (by rfl) m_l_kinds k_l_kinds b_l_kinds .nil pass0 (pa_cons (pe_ix ix_list (pv 0) (pv 5) (fun _ _ => rfl)) pa_nil)) (pe_lc (own := [("_law_j", 6)]) (g := gName 6) (by rfl) sc_l_all_so.nd (pi_range1 (by rfl) Z.range_ (pa_cons (pe_callB call_len_seq (by rfl) Z.len_ (by decide +kernel) (pa_cons (pv 4) pa_nil)) pa_nil)) (blkOk_by (own := [("_law_j", 6)]) (N := ["_law_made", "_law_x", "_law_y", "_law_z", "_law_codes_here", "_law_k", "_law_j", "_law_bases_here"]) (sc := defScope s_l_all_so) (by decide +kernel)) (fun _ _ _ _ _ => pg_name (i := 6) sc_l_all_so.nd rfl (Or.inl rfl)) (fun _ _ _ _ _ => pts_nil) (fun _ _ _ _ _ => (pe_cmpR op_eq (pv 6) (pv 5) (nomark _)))) (nomark _)) (pss_one (ps_ret pe_bl)) pss_nil) (pss_cons (ps_set (i := 7) sc_l_all_so.nd rfl (Or.inl rfl) (pe_lst (pa_cons pe_bl (pa_cons pe_bl (pa_cons pe_bl (pa_cons pe_bl (pa_cons pe_bl (pa_cons pe_bl pa_nil)))))))) (C8.pss_cut (ps_if (pt_cmpR op_gt (pv 5) pe_int (nomark _)) (pss_one (ps_set (i := 7) sc_l_all_so.nd rfl (Or.inl rfl) (pe_ifExp (pt_cmpR op_lt (pv 5) pe_int (nomark _)) (pe_lst (pa_cons pe_bl (pa_cons pe_bl (pa_cons pe_bl (pa_cons pe_bl (pa_cons pe_bl (pa_cons pe_bl pa_nil))))))) (pe_lst (pa_cons pe_bl (pa_cons pe_bl (pa_cons pe_bl (pa_cons pe_bl (pa_cons pe_bl (pa_cons pe_bl pa_nil)))))))))) pss_nil) (pss_one (ps_if (pt_cmpR (op_neD hr.units) (pe_call G_l_bases (hr.mono (by decide)) (by rfl) m_l_bases k_l_bases b_l_bases .nil pass0 (pa_cons (pe_ix ix_list (pv 0) (pv 5) (fun _ _ => rfl)) pa_nil)) (pv 7) (nomark _)) (pss_one (ps_ret pe_bl)) pss_nil)))))))) (pss_one (ps_ret pe_bl)))), ?_⟩
    refine ⟨rfl, fun C H1 s1 nC eC => ?_⟩
    have l36 : (errN.map V.str).length = 36 := rfl
    refine ⟨_, rfl, C, _, rfl, .inl (.inl (.inl eC)), ?_⟩
    refine ⟨_, rfl, by decide, by decide, for_range (lo := 0) (n := (((errN.map V.str).length : Nat) : Int).toNat) (fun i σ H' => ∃ y5 y6 y7 : Option V, σ = [some (.ref L), some x, some y, some z, some (.ref C), y5, y6, y7] ∧ Same H1 H') ⟨_, _, _, rfl, Same.refl _⟩ ?_ ?_⟩
    · rintro k σ H2 hk ⟨y5, y6, y7, rfl, s2⟩
      have hk' : k < 36 := by rw [l36] at hk; exact hk
      have s12 := s1.trans s2
      have eC2 := s2 _ _ eC
      have eL2 := s12 _ _ eL
      obtain ⟨n, hn⟩ : ∃ n, errN[k]? = some n := ⟨_, List.getElem?_eq_getElem (show k < errN.length from hk')⟩
      have hmem := List.mem_of_getElem? hn
      obtain ⟨v, hv, ev⟩ := ex.2 k n hn
      have hgd : errN.getD k Str.empty = n := by rw [List.getD_eq_getElem?_getD, hn]; rfl
      have hc : (errN.map V.str)[(0 + (k : Int)).toNat]? = some (.str n) := by
        rw [show (0 + (k : Int)).toNat = k by omega, List.getElem?_map, hn]
        rfl
      have hv' : us[(0 + (k : Int)).toNat]? = some v := by rw [show (0 + (k : Int)).toNat = k by omega]; exact hv
      have ev2 := ev.to s12
      have lvs := err_lv n hmem
      have lvn : ∀ m, Lv m (.str n) := fun m => lv_word m n lvs.2 lvs.1
      have i0 : (0 : Int) ≤ 0 + (k : Int) := by omega
      have lv1 : LvN 6 (.list [.str n]) := ⟨by show 1 ≤ 60; decide, fun e he => by rw [List.mem_singleton.mp he]; exact lvn 4⟩
      obtain ⟨ds, hds⟩ : ∃ ds, ds = [dx, dy, dz].take (fldsN n).length := ⟨_, rfl⟩
      rw [← hds] at ev2
      have lvt : LvN 6 (.tuple ds) := ⟨by rw [hds, List.length_take]; show min _ 3 ≤ 60; omega, fun e he => by
        rw [hds] at he
        have he := List.mem_of_mem_take he
        simp only [List.mem_cons, List.not_mem_nil, or_false] at he
        rcases he with rfl | rfl | rfl
        · exact (show Lv 3 _ from lx).up
        · exact (show Lv 3 _ from ly).up
        · exact (show Lv 3 _ from lz).up⟩
      have ev2' := ev2
      obtain ⟨a, Cc, dxx, ws, rfl, m, xf, nf, ea, ed, al, hl⟩ := ev2'
      -- the code
      refine ⟨_, rfl, _, rfl, L, _, _, _, rfl, rfl, .inl (.inl eL2), atI_of i0 hv', a, Cc, dxx, _, .str n, rfl, ea, ed, xf, nf _ List.mem_cons_self, by rfl, by show 1 ≤ sizeLine; decide, fun M1 m1 => ?_⟩
      have t1 := same_new (o := .lst [.str n]) m1
      refine ⟨_, rfl, _, rfl, C, _, _, _, rfl, rfl, .inl (.inl (t1 _ _ eC2)), atI_of i0 hc, by show 1 ≤ sizeLine; decide, fun M2 m2 => ?_⟩
      have t2 := t1.trans (same_new (o := .lst [.str n]) m2)
      refine ⟨.ref M1, .ref M2, _, rfl, Da.newL (kp upd_same m2) (.cons (.str _) .nil), Da.newL upd_same (.cons (.str _) .nil), lv1, fun H3 s3 => ⟨_, rfl, iteF ?_⟩⟩
      have s3 := t2.trans s3
      have eL3 := s3 _ _ eL2
      have eC3 := s3 _ _ eC2
      have ev3 := ev2.to s3
      have s13 := s12.trans s3
      clear ea ed t1 t2 m1 m2
      -- its fields
      refine ⟨_, rfl, _, rfl, L, _, _, _, rfl, rfl, .inl (.inl eL3), atI_of i0 hv', _, rfl, _, rfl, C, _, _, _, rfl, rfl, .inl (.inl eC3), atI_of i0 hc, .ref a, n, ds, rfl, ev3, hmem, fun r H4 s4 rd => ?_⟩
      refine ⟨_, rfl, _, rfl, C, _, _, _, rfl, rfl, .inl (.inl (s4 _ _ eC3)), atI_of i0 hc, _, rfl, _, rfl, _, rfl, n, x, y, z, rfl, hmem, fun r2 H5 s5 e5 => ?_⟩
      have s15 := (s13.trans s4).trans s5
      have al5 : DaAll K H5 [x, y, z] [dx, dy, dz] := .cons (rx.to s15) (.cons (ry.to s15) (.cons (rz.to s15) .nil))
      refine ⟨.ref r, .ref r2, .tuple ds, rfl, rd.to s5, Da.newT e5 (by rw [hds]; exact al5.take _), lvt, fun H6 s6 => ⟨_, rfl, iteF ?_⟩⟩
      have s36 := (s4.trans s5).trans s6
      have eL6 := s36 _ _ eL3
      have eC6 := s36 _ _ eC3
      have ev6 := ev3.to s36
      have s26 := s3.trans s36
      clear al5 s15 rd e5 s36 s4 s5 s6 eL3 eC3 ev3 s13 s3
      -- its kinds
      refine ⟨_, rfl, _, rfl, L, _, _, _, rfl, rfl, .inl (.inl eL6), atI_of i0 hv', .ref a, n, ds, rfl, ev6, hmem, fun KL H7 s7 eK => ?_⟩
      refine ⟨_, rfl, C, _, rfl, .inl (.inl (.inl (s7 _ _ eC6))), _, rfl, by decide, by decide, fun M nM => ?_⟩
      refine lc_range (lo := 0) (n := (((errN.map V.str).length : Nat) : Int).toNat) (fun i H' => Same H7 H' ∧ H' M = some (.lst (((List.range i).map fun j => decide (j = k)).map V.bl))) ⟨same_new nM, upd_same⟩ ?_ ?_
      · rintro j H8 hj ⟨s8, e8⟩
        have hj' : j < 36 := by rw [l36] at hj; exact hj
        refine ⟨rfl, _, rfl, _, rfl, rfl, _, e8, slineL (by rw [List.length_map, List.length_map, List.length_range]; omega), same_mut s8 nM, ?_⟩
        have ej : decide (V.int (0 + (j : Int)) = V.int (0 + (k : Int))) = decide (j = k) := by
          rw [Bool.eq_iff_iff, decide_eq_true_eq, decide_eq_true_eq]
          exact ⟨fun h => by have := V.int.inj h; omega, fun h => by rw [h]⟩
        rw [upd_same, List.range_succ, List.map_append, List.map_append]
        show some (HO.lst (_ ++ [V.bl (decide (V.int (0 + (j : Int)) = V.int (0 + (k : Int))))])) = _
        rw [ej]
        rfl
      rintro H8 ⟨s8, e8⟩
      have e8 : H8 M = some (.lst (((List.range 36).map fun j => decide (j = k)).map V.bl)) := e8
      have ke := kinds_eq k hk'
      rw [hgd] at ke
      rw [← ke] at e8
      have eK8 : H8 KL = some (.lst ((errN.map fun m => decide (n = m)).map V.bl)) := by
        rw [List.map_map]
        exact s8 _ _ eK
      have lvk : Lv 4 (.list ((errN.map fun m => decide (n = m)).map .bool)) := lv_bls _ (by rw [List.length_map]; decide)
      refine ⟨.list ((errN.map fun m => decide (n = m)).map .bool), .list ((errN.map fun m => decide (n = m)).map .bool), .lst (.inl (.inl eK8)) (DaAll.dp (K := K) _ _ (DaAll.bls _)), .lst (.inl (.inl e8)) (DaAll.dp (K := K) _ _ (DaAll.bls _)), lvk.shaped (by decide), lvk.shaped (by decide), _, rfl, ?_⟩
      rw [eqv_bl]
      refine iteF ?_
      have s78 := s7.trans s8
      have eL8 := s78 _ _ eL6
      have eC8 := s78 _ _ eC6
      have ev8 := ev6.to s78
      have s28 := s26.trans s78
      clear lvk eK8 e8 ke nM eK s78 s8 s7 s26 ev6 eC6 eL6
      -- its bases
      refine ⟨by show 6 ≤ sizeLine; decide, fun B nB => ?_⟩
      have t1 := same_new (o := .lst [.bl true, .bl true, .bl false, .bl false, .bl false, .bl false]) nB
      have eB := upd_same (H := H8) (a := B) (o := .lst [.bl true, .bl true, .bl false, .bl false, .bl false, .bl false])
      generalize upd H8 B (.lst [.bl true, .bl true, .bl false, .bl false, .bl false, .bl false]) = H9 at t1 eB ⊢
      have be := bases_eq k hk'
      rw [hgd] at be
      refine ⟨fun σ H' => ∃ (B : Addr) (y6 : Option V), σ = [some (.ref L), some x, some y, some z, some (.ref C), some (.int (0 + (k : Int))), y6, some (.ref B)] ∧ Same H8 H' ∧ H' B = some (.lst ((basesN n).map V.bl)), ?_, ?_⟩
      · refine ⟨_, rfl, _, _, rfl, rfl, _, rfl, ite2 (fun c => ?_) (fun c => ?_)⟩
        · have c : ¬ k < 31 := by have := of_decide_eq_true c; omega
          rw [if_neg c] at be
          refine ⟨_, rfl, _, _, rfl, rfl, _, rfl, ite2 (fun c2 => ?_) (fun c2 => ?_)⟩
          · have c2 : k < 35 := by have := of_decide_eq_true c2; omega
            rw [if_pos c2] at be
            refine ⟨by show 6 ≤ sizeLine; decide, fun B2 n2 => ⟨B2, _, rfl, t1.trans (same_new n2), ?_⟩⟩
            rw [be]
            exact upd_same
          · have c2 : ¬ k < 35 := fun z => c2 (decide_eq_true (by omega))
            rw [if_neg c2] at be
            refine ⟨by show 6 ≤ sizeLine; decide, fun B2 n2 => ⟨B2, _, rfl, t1.trans (same_new n2), ?_⟩⟩
            rw [be]
            exact upd_same
        · have c : k < 31 := by
            by_cases h : k < 31
            · exact h
            · exact absurd (decide_eq_true (by omega)) c
          rw [if_pos c] at be
          refine ⟨B, _, rfl, t1, ?_⟩
          rw [be]
          exact eB
      clear be eB t1 nB B H9
      rintro σ H9 ⟨B, y6, rfl, s9, eB⟩
      refine ⟨_, rfl, _, rfl, L, _, _, _, rfl, rfl, .inl (.inl (s9 _ _ eL8)), atI_of i0 hv', .ref a, n, ds, rfl, ev8.to s9, hmem, fun BL HA sA eA => ?_⟩
      have lvb : Lv 4 (.list ((basesN n).map .bool)) := lv_bls _ (by show 6 ≤ 60; decide)
      refine ⟨_, rfl, .list ((basesN n).map .bool), .list ((basesN n).map .bool), .lst (.inl (.inl eA)) (DaAll.dp (K := K) _ _ (DaAll.bls _)), .lst (.inl (.inl (sA _ _ eB))) (DaAll.dp (K := K) _ _ (DaAll.bls _)), lvb.shaped (by decide), lvb.shaped (by decide), _, rfl, ?_⟩
      rw [eqv_bl]
      refine iteF ?_
      exact ⟨_, _, _, rfl, s2.trans (s28.trans (s9.trans sA))⟩
    · rintro σ H2 ⟨y5, y6, y7, rfl, s2⟩
      exact q _ (s1.trans s2)
end
end Th
namespace Th
open PySem PySem.Spec PyProof.Rows L2
theorem sc_p_law : FnScope ["_law_script", "_law_state", "_law_x", "_law_z", "_law_y", "_law_first", "_law_second", "_law_third"] ["_law_script"] (defScope s_p_law) := ⟨rfl, rfl, rfl, by decide +kernel, rfl, by decide +kernel, by decide +kernel⟩
section
variable {P : Program} {w : World} {K : PySem.W.Frag} {mg : Str → Option Value} {base : Heap} {CB : Addr}
theorem has_p_law (Z : Zs mg) (A : At K mg "law" s_p_law ["_law_script"]) (h_l_start : Has P w K mg base "_law_start" s_l_start 1 ["_law_script", "_law_own"] (spStart K)) (h_l_odd : Has P w K mg base "_law_odd" s_l_odd 3 ["_law_state"] (spOdd K)) (h_l_pick : Has P w K mg base "_law_pick" s_l_pick 2 ["_law_state", "_law_pool"] (spPick K)) (h_l_word : Has P w K mg base "_law_word" s_l_word 2 ["_law_state", "_law_longest"] (spWord K)) (h_l_draw : Has P w K mg base "_law_draw" s_l_draw 1 ["_law_state", "_law_many"] (spDraw)) (h_l_by_place : Has P w K mg base "_law_by_place" s_l_by_place 11 ["_law_x", "_law_y", "_law_z"] (spByE K mg)) (h_l_by_name : Has P w K mg base "_law_by_name" s_l_by_name 11 ["_law_x", "_law_y", "_law_z"] (spByE K mg)) (h_l_same : Has P w K mg base "_law_same" s_l_same 6 ["_law_got", "_law_due_here"] (spSm K 6)) (h_l_raised : Has P w K mg base "_law_raised" s_l_raised 9 ["_law_x"] (spRaised K)) (h_l_all_so : Has P w K mg base "_law_all_so" s_l_all_so 12 ["_law_made", "_law_x", "_law_y", "_law_z"] (spAllE K mg)) : Has P w K mg base "law" s_p_law 15 ["_law_script"] (spLawK K) := by
  obtain ⟨f, fd, F, mg1, bd⟩ := A
  obtain ⟨f_l_start, fd_l_start, G_l_start, m_l_start, k_l_start, b_l_start, F_l_start⟩ := h_l_start
  obtain ⟨f_l_odd, fd_l_odd, G_l_odd, m_l_odd, k_l_odd, b_l_odd, F_l_odd⟩ := h_l_odd
  obtain ⟨f_l_pick, fd_l_pick, G_l_pick, m_l_pick, k_l_pick, b_l_pick, F_l_pick⟩ := h_l_pick
  obtain ⟨f_l_word, fd_l_word, G_l_word, m_l_word, k_l_word, b_l_word, F_l_word⟩ := h_l_word
  obtain ⟨f_l_draw, fd_l_draw, G_l_draw, m_l_draw, k_l_draw, b_l_draw, F_l_draw⟩ := h_l_draw
  obtain ⟨f_l_by_place, fd_l_by_place, G_l_by_place, m_l_by_place, k_l_by_place, b_l_by_place, F_l_by_place⟩ := h_l_by_place
  obtain ⟨f_l_by_name, fd_l_by_name, G_l_by_name, m_l_by_name, k_l_by_name, b_l_by_name, F_l_by_name⟩ := h_l_by_name
  obtain ⟨f_l_same, fd_l_same, G_l_same, m_l_same, k_l_same, b_l_same, F_l_same⟩ := h_l_same
  obtain ⟨f_l_raised, fd_l_raised, G_l_raised, m_l_raised, k_l_raised, b_l_raised, F_l_raised⟩ := h_l_raised
  obtain ⟨f_l_all_so, fd_l_all_so, G_l_all_so, m_l_all_so, k_l_all_so, b_l_all_so, F_l_all_so⟩ := h_l_all_so
  refine ⟨f, fd, ?_, mg1, F.kp, bd, F⟩
  refine F.ok sc_p_law (fun vs H Q E h => ?_) (fun cdv A outer s H vs Q E hr h => ?_)
  · obtain ⟨a, ns, rfl, _⟩ := h
    rfl
  · obtain ⟨a, ns, rfl, hS, hlen, q⟩ := h
    refine ⟨_, (pss_cons (ps_set (i := 1) sc_p_law.nd rfl (Or.inl rfl) (pe_call G_l_start (hr.mono (by decide)) (by rfl) m_l_start k_l_start b_l_start .nil pass0 (pa_cons (pv 0) (pa_cons pe_int pa_nil)))) (pss_cons (ps_par (i := 2) (j := 3) (by rfl) sc_p_law.nd rfl rfl (by decide) rfl rfl (pa_cons (pe_call G_l_odd (hr.mono (by decide)) (by rfl) m_l_odd k_l_odd b_l_odd .nil pass0 (pa_cons (pv 1) pa_nil)) (pa_cons (pe_call G_l_odd (hr.mono (by decide)) (by rfl) m_l_odd k_l_odd b_l_odd .nil pass0 (pa_cons (pv 1) pa_nil)) pa_nil)) (by rfl)) (pss_cons (ps_set (i := 4) sc_p_law.nd rfl (Or.inl rfl) (pe_call G_l_pick (hr.mono (by decide)) (by rfl) m_l_pick k_l_pick b_l_pick .nil pass0 (pa_cons (pv 1) (pa_cons (pe_lst (pa_cons (pe_call G_l_word (hr.mono (by decide)) (by rfl) m_l_word k_l_word b_l_word .nil pass0 (pa_cons (pv 1) (pa_cons pe_int pa_nil))) (pa_cons (pe_call G_l_odd (hr.mono (by decide)) (by rfl) m_l_odd k_l_odd b_l_odd .nil pass0 (pa_cons (pv 1) pa_nil)) (pa_cons (pe_call G_l_draw (hr.mono (by decide)) (by rfl) m_l_draw k_l_draw b_l_draw .nil pass0 (pa_cons (pv 1) (pa_cons (pe_op op_pow pe_int pe_int) pa_nil))) pa_nil)))) pa_nil)))) (pss_cons (ps_par3 (i := 5) (j := 6) (l := 7) (by rfl) sc_p_law.nd rfl rfl rfl (by decide) (by decide) (by decide) rfl rfl rfl (pa_cons (pe_call G_l_by_place (hr.mono (by decide)) (by rfl) m_l_by_place k_l_by_place b_l_by_place .nil pass0 (pa_cons (pv 2) (pa_cons (pv 4) (pa_cons (pv 3) pa_nil)))) (pa_cons (pe_call G_l_by_name (hr.mono (by decide)) (by rfl) m_l_by_name k_l_by_name b_l_by_name .nil pass0 (pa_cons (pv 4) (pa_cons (pv 3) (pa_cons (pv 2) pa_nil)))) (pa_cons (pe_call G_l_by_place (hr.mono (by decide)) (by rfl) m_l_by_place k_l_by_place b_l_by_place .nil pass0 (pa_cons pe_str (pa_cons pe_int (pa_cons (pe_tup pa_nil) pa_nil)))) pa_nil))) (by rfl)) (pss_cons (ps_if (pt_not (pt_val (pe_call G_l_same (hr.mono (by decide)) (by rfl) m_l_same k_l_same b_l_same .nil pass0 (pa_cons (pe_call G_l_raised (hr.mono (by decide)) (by rfl) m_l_raised k_l_raised b_l_raised .nil pass0 (pa_cons (pv 2) pa_nil)) (pa_cons (pe_lst (pa_cons (pv 2) (pa_cons (pv 2) pa_nil))) pa_nil))))) (pss_one (ps_ret pe_bl)) pss_nil) (pss_one (ps_ret (pe_and (pe_call G_l_all_so (hr.mono (by decide)) (by rfl) m_l_all_so k_l_all_so b_l_all_so .nil pass0 (pa_cons (pv 5) (pa_cons (pv 2) (pa_cons (pv 4) (pa_cons (pv 3) pa_nil))))) (pe_and (pe_call G_l_all_so (hr.mono (by decide)) (by rfl) m_l_all_so k_l_all_so b_l_all_so .nil pass0 (pa_cons (pv 6) (pa_cons (pv 4) (pa_cons (pv 3) (pa_cons (pv 2) pa_nil))))) (pe_one (pe_call G_l_all_so (hr.mono (by decide)) (by rfl) m_l_all_so k_l_all_so b_l_all_so .nil pass0 (pa_cons (pv 7) (pa_cons pe_str (pa_cons pe_int (pa_cons (pe_tup pa_nil) pa_nil))))))))))))))), ?_⟩
    refine ⟨_, rfl, a, ns, 120330011, rfl, hS, hlen, by decide, by decide, fun H1 D s1 np nl d => ?_⟩
    refine ⟨_, rfl, D, rfl, d, fun v1 d1 H2 hd1 g2 r1 => ⟨_, rfl, D, rfl, g2.st, fun v3 d3 H3 hd3 g3 r3 => ⟨_, _, rfl, ?_⟩⟩⟩
    have r1 := r1.to g3.sm
    refine ⟨_, rfl, _, rfl, D, 6, rfl, g3.st, by decide, by decide, fun wx H4 lw l1 l2 g4 => ⟨_, rfl, D, rfl, g4.st, fun v5 d5 H5 hd5 g5 r5 => ?_⟩⟩
    refine ⟨_, rfl, _, _, rfl, rfl, (⟨by decide, by decide, by decide⟩ : CPow 10 9), D, _, rfl, g5.st, by decide, by decide, fun n H6 n0 n1 g6 => ?_⟩
    refine ⟨by show 3 ≤ sizeLine; decide, fun PL nPL => ?_⟩
    have PD := g6.st.ne_new nPL
    have g7 := Go.of g6.st (same_new (o := .lst [.str wx, v5, .int n]) nPL)
    have items : DaAll K (hid D.p (upd H6 PL (.lst [.str wx, v5, .int n]))) [.str wx, v5, .int n] [.str wx, d5, .int n] := .cons (.str _) (.cons ((r5.to g6.sm).to g7.sm) (.cons (.int _) .nil))
    refine ⟨D, PL, _, rfl, g7.st, sqh PD upd_same, by show 0 < 3; decide, by show 3 ≤ 1000; decide, fun i v2 H8 hv g8 => ?_⟩
    obtain ⟨d2, hd2, r2⟩ := items.at hv
    have gg := ((g4.trans g5).trans (g6.trans g7)).trans g8
    have r1 := (r1.to gg.sm).to hid_same
    have r3 := (r3.to gg.sm).to hid_same
    have r2 := (r2.to g8.sm).to hid_same
    have lv1 : Lv 2 d1 := odds_lv d1 hd1
    have lv3 : Lv 2 d3 := odds_lv d3 hd3
    have lv2 : Lv 2 d2 := by
      rcases List.mem_cons.mp (List.mem_of_getElem? hd2) with e | m
      · rw [e]; exact lv_word 2 wx (strOk_lw lw) (by omega)
      · rcases List.mem_cons.mp m with e | m
        · rw [e]; exact odds_lv d5 hd5
        · rw [List.mem_singleton.mp m]; trivial
    clear gg items hv hd2 g8 g7 PD nPL g6 g5 g4 g3 g2 r5
    -- made thrice
    refine ⟨_, rfl, _, rfl, _, rfl, v1, v2, v3, d1, d2, d3, rfl, r1, r2, r3, lv1.up.up.up, lv2.up.up.up, lv3.up.up.up, fun L1 us1 Ha sa e1 x1 => ?_⟩
    have r1 := r1.to sa
    have r2 := r2.to sa
    have r3 := r3.to sa
    refine ⟨_, rfl, _, rfl, _, rfl, v2, v3, v1, d2, d3, d1, rfl, r2, r3, r1, lv2.up.up.up, lv3.up.up.up, lv1.up.up.up, fun L2 us2 Hb sb e2 x2 => ?_⟩
    refine ⟨Nat.zero_le _, fun T nT => ?_⟩
    have st := same_new (o := .tup []) nT
    have rT : Da K (upd Hb T (.tup [])) (.ref T) (.tuple []) := Da.newT upd_same .nil
    have le : LvN 6 (.str (Str.ofString "")) := (lv_word 5 (Str.ofString "") (by decide +kernel) (by decide +kernel))
    refine ⟨.str (Str.ofString ""), .int 0, .ref T, .str (Str.ofString ""), .int 0, .tuple [], rfl, .str _, .int _, rT, le, (trivial : Lv 5 (.int 0)), (⟨Nat.zero_le _, fun e he => (List.not_mem_nil he).elim⟩ : Lv 5 (.tuple [])), fun L3 us3 Hc sc e3 x3 => ⟨_, _, _, rfl, ?_⟩⟩
    have sbc := (sb.trans st).trans sc
    have x1 := x1.to sbc
    have e1 := sbc _ _ e1
    have x2 := x2.to (st.trans sc)
    have e2 := (st.trans sc) _ _ e2
    have r1 := r1.to sbc
    have r2 := r2.to sbc
    have r3 := r3.to sbc
    clear sbc sc rT st sb sa le nT
    -- raised
    refine ⟨_, rfl, v1, d1, rfl, r1, lv1.up.up.up, fun L4 Hd sd r4 => ?_⟩
    refine ⟨_, rfl, _, rfl, by show 2 ≤ sizeLine; decide, fun M nM => ?_⟩
    have sm := same_new (o := .lst [v1, v1]) nM
    have rr := (r1.to sd).to sm
    refine ⟨.ref L4, .ref M, .list [d1, d1], rfl, r4.to sm, Da.newL upd_same (.cons rr (.cons rr .nil)), (⟨by show 2 ≤ 60; decide, fun e he => by
      simp only [List.mem_cons, List.not_mem_nil, or_false] at he
      rcases he with rfl | rfl <;> exact lv1.up.up⟩ : Lv 5 (.list [d1, d1])), fun He se => ⟨_, rfl, iteF ?_⟩⟩
    have s5 := (sd.trans sm).trans se
    have x1 := x1.to s5
    have e1 := s5 _ _ e1
    have x2 := x2.to s5
    have e2 := s5 _ _ e2
    have x3 := x3.to s5
    have e3 := s5 _ _ e3
    have r1 := r1.to s5
    have r2 := r2.to s5
    have r3 := r3.to s5
    clear s5 se rr sm nM r4 sd
    refine ⟨_, rfl, _, rfl, _, rfl, _, rfl, L1, us1, v1, v2, v3, d1, d2, d3, rfl, e1, x1, r1, r2, r3, lv1.up, lv2.up, lv3.up, fun Hf sf => ?_⟩
    refine ⟨_, rfl, iteT ?_⟩
    refine ⟨_, rfl, _, rfl, _, rfl, _, rfl, L2, us2, v2, v3, v1, d2, d3, d1, rfl, sf _ _ e2, x2.to sf, r2.to sf, r3.to sf, r1.to sf, lv2.up, lv3.up, lv1.up, fun Hg sg => ?_⟩
    refine ⟨_, rfl, iteT ?_⟩
    have sfg := sf.trans sg
    refine ⟨_, rfl, Nat.zero_le _, fun T nT => ?_⟩
    have st := same_new (o := .tup []) nT
    have sfg := sfg.trans st
    exact ⟨L3, us3, .str (Str.ofString ""), .int 0, .ref T, .str (Str.ofString ""), .int 0, .tuple [], rfl, sfg _ _ e3, x3.to sfg, .str _, .int _, Da.newT upd_same .nil, (lv_word 3 (Str.ofString "") (by decide +kernel) (by decide +kernel)), (trivial : Lv 3 (.int 0)), (⟨Nat.zero_le _, fun e he => (List.not_mem_nil he).elim⟩ : Lv 3 (.tuple [])), fun Hh sh => q Hh⟩
end
end Th
namespace Th
open PySem PySem.Spec PyProof.Rows L2
theorem at_mk {K : PySem.W.Frag} {h : Heap} {mg : Str → Option Value} {x : Str} {st : Stmt} {ps : List Str} {f : Addr} {oc : Value} {od an : Option Addr} {osl : Array (Option Value)} {kV doc pm cdv ct : Value} (X : K.In h) (G : h.Ns mainGlobals mg)
    (a : PySem.W.nsIn K mainGlobals x = some (some (.ref f))) (l : K.lookup f = some ⟨oc, od, .func (PySem.W.fnOf x x (defArgs st) (defBody st) (defScope st) .none kV doc pm an cdv ct), osl⟩) (c : PySem.W.codeIn K cdv x = true) (k : PySem.W.keepIn K (.ref f) = true)
    (hb : ∀ (kV doc pm : Value) (an : Option Addr) (cdv ct : Value) (us : List Value), us.length = ps.length → bindArgs (PySem.W.fnOf x x (defArgs st) (defBody st) (defScope st) .none kV doc pm an cdv ct) ⟨us, []⟩ = pure (ps.zip us)) : At K mg x st ps :=
  ⟨f, _, fun_mk (st := st) l c k, PySem.W.mg_of X G a, (fun_mk (st := st) l c k).binds (ps := ps) hb⟩
theorem has_fn {P : Program} {w : World} {K : PySem.W.Frag} {mg : Str → Option Value} {base : Heap} {x : Str} {st : Stmt} {k : Nat} {ps : List Str} {sp : Sp} {f : Addr} {oc : Value} {od : Option Addr} {fd : FuncData} {osl : Array (Option Value)}
    (h : Has P w K mg base x st k ps sp) (m : mg x = some (.ref f)) (l : K.lookup f = some ⟨oc, od, .func fd, osl⟩) : FnOk P w K mg base CX0 k f fd ps sp := by
  obtain ⟨f', fd', G, m', _, _, F⟩ := h
  rw [m] at m'
  cases m'
  obtain ⟨oc', od', kV, doc, pm, an, cdv, ct, osl', rfl, lk, _⟩ := F.ex
  rw [l] at lk
  cases lk
  exact G
theorem all_mk {l : PySem.W.OpenLaw} {w : World} {K : PySem.W.Frag} {h : Heap} {mg : Str → Option Value} {fa : Addr} (X : K.In h) (G : h.Ns mainGlobals mg) 
    {f0 : Addr} {od0 an0 : Option Addr} {sl0 : Array (Option Value)} {oc0 kV0 dc0 pm0 ct0 : Value} {cd0 : Value}
    {f1 : Addr} {od1 an1 : Option Addr} {sl1 : Array (Option Value)} {oc1 kV1 dc1 pm1 ct1 : Value} {cd1 : Value}
    {f2 : Addr} {od2 an2 : Option Addr} {sl2 : Array (Option Value)} {oc2 kV2 dc2 pm2 ct2 : Value} {cd2 : Value}
    {f3 : Addr} {od3 an3 : Option Addr} {sl3 : Array (Option Value)} {oc3 kV3 dc3 pm3 ct3 : Value} {cd3 : Value}
    {f4 : Addr} {od4 an4 : Option Addr} {sl4 : Array (Option Value)} {oc4 kV4 dc4 pm4 ct4 : Value} {cd4 : Value}
    {f5 : Addr} {od5 an5 : Option Addr} {sl5 : Array (Option Value)} {oc5 kV5 dc5 pm5 ct5 : Value} {cd5 : Value}
    {f6 : Addr} {od6 an6 : Option Addr} {sl6 : Array (Option Value)} {oc6 kV6 dc6 pm6 ct6 : Value} {cd6 : Value}
    {f7 : Addr} {od7 an7 : Option Addr} {sl7 : Array (Option Value)} {oc7 kV7 dc7 pm7 ct7 : Value} {cd7 : Value}
    {f8 : Addr} {od8 an8 : Option Addr} {sl8 : Array (Option Value)} {oc8 kV8 dc8 pm8 ct8 : Value} {cd8 : Value}
    {f9 : Addr} {od9 an9 : Option Addr} {sl9 : Array (Option Value)} {oc9 kV9 dc9 pm9 ct9 : Value} {cd9 : Value}
    {f10 : Addr} {od10 an10 : Option Addr} {sl10 : Array (Option Value)} {oc10 kV10 dc10 pm10 ct10 : Value} {cd10 : Value}
    {f11 : Addr} {od11 an11 : Option Addr} {sl11 : Array (Option Value)} {oc11 kV11 dc11 pm11 ct11 : Value} {cd11 : Value}
    {f12 : Addr} {od12 an12 : Option Addr} {sl12 : Array (Option Value)} {oc12 kV12 dc12 pm12 ct12 : Value} {cd12 : Value}
    {f13 : Addr} {od13 an13 : Option Addr} {sl13 : Array (Option Value)} {oc13 kV13 dc13 pm13 ct13 : Value} {cd13 : Value}
    {f14 : Addr} {od14 an14 : Option Addr} {sl14 : Array (Option Value)} {oc14 kV14 dc14 pm14 ct14 : Value} {cd14 : Value}
    {f15 : Addr} {od15 an15 : Option Addr} {sl15 : Array (Option Value)} {oc15 kV15 dc15 pm15 ct15 : Value} {cd15 : Value}
    {f16 : Addr} {od16 an16 : Option Addr} {sl16 : Array (Option Value)} {oc16 kV16 dc16 pm16 ct16 : Value} {cd16 : Value}
    {f17 : Addr} {od17 an17 : Option Addr} {sl17 : Array (Option Value)} {oc17 kV17 dc17 pm17 ct17 : Value} {cd17 : Value}
    {b1 : Addr}
    {b2 : Addr}
    {C18 f18 : Addr} {od18 an18 : Option Addr} {sl18 : Array (Option Value)} {oc18 kV18 dc18 pm18 cd18 ct18 : Value}
    {C19 f19 : Addr} {od19 an19 : Option Addr} {sl19 : Array (Option Value)} {oc19 kV19 dc19 pm19 cd19 ct19 : Value}
    {C20 f20 : Addr} {od20 an20 : Option Addr} {sl20 : Array (Option Value)} {oc20 kV20 dc20 pm20 cd20 ct20 : Value}
    {C21 f21 : Addr} {od21 an21 : Option Addr} {sl21 : Array (Option Value)} {oc21 kV21 dc21 pm21 cd21 ct21 : Value}
    {C22 f22 : Addr} {od22 an22 : Option Addr} {sl22 : Array (Option Value)} {oc22 kV22 dc22 pm22 cd22 ct22 : Value}
    {C23 f23 : Addr} {od23 an23 : Option Addr} {sl23 : Array (Option Value)} {oc23 kV23 dc23 pm23 cd23 ct23 : Value}
    {C24 f24 : Addr} {od24 an24 : Option Addr} {sl24 : Array (Option Value)} {oc24 kV24 dc24 pm24 cd24 ct24 : Value}
    {C25 f25 : Addr} {od25 an25 : Option Addr} {sl25 : Array (Option Value)} {oc25 kV25 dc25 pm25 cd25 ct25 : Value}
    {C26 f26 : Addr} {od26 an26 : Option Addr} {sl26 : Array (Option Value)} {oc26 kV26 dc26 pm26 cd26 ct26 : Value}
    {C27 f27 : Addr} {od27 an27 : Option Addr} {sl27 : Array (Option Value)} {oc27 kV27 dc27 pm27 cd27 ct27 : Value}
    {C28 f28 : Addr} {od28 an28 : Option Addr} {sl28 : Array (Option Value)} {oc28 kV28 dc28 pm28 cd28 ct28 : Value}
    {C29 f29 : Addr} {od29 an29 : Option Addr} {sl29 : Array (Option Value)} {oc29 kV29 dc29 pm29 cd29 ct29 : Value}
    {C30 f30 : Addr} {od30 an30 : Option Addr} {sl30 : Array (Option Value)} {oc30 kV30 dc30 pm30 cd30 ct30 : Value}
    {C31 f31 : Addr} {od31 an31 : Option Addr} {sl31 : Array (Option Value)} {oc31 kV31 dc31 pm31 cd31 ct31 : Value}
    {C32 f32 : Addr} {od32 an32 : Option Addr} {sl32 : Array (Option Value)} {oc32 kV32 dc32 pm32 cd32 ct32 : Value}
    {C33 f33 : Addr} {od33 an33 : Option Addr} {sl33 : Array (Option Value)} {oc33 kV33 dc33 pm33 cd33 ct33 : Value}
    {C34 f34 : Addr} {od34 an34 : Option Addr} {sl34 : Array (Option Value)} {oc34 kV34 dc34 pm34 cd34 ct34 : Value}
    {C35 f35 : Addr} {od35 an35 : Option Addr} {sl35 : Array (Option Value)} {oc35 kV35 dc35 pm35 cd35 ct35 : Value}
    {C36 f36 : Addr} {od36 an36 : Option Addr} {sl36 : Array (Option Value)} {oc36 kV36 dc36 pm36 cd36 ct36 : Value}
    {C37 f37 : Addr} {od37 an37 : Option Addr} {sl37 : Array (Option Value)} {oc37 kV37 dc37 pm37 cd37 ct37 : Value}
    {C38 f38 : Addr} {od38 an38 : Option Addr} {sl38 : Array (Option Value)} {oc38 kV38 dc38 pm38 cd38 ct38 : Value}
    {C39 f39 : Addr} {od39 an39 : Option Addr} {sl39 : Array (Option Value)} {oc39 kV39 dc39 pm39 cd39 ct39 : Value}
    {C40 f40 : Addr} {od40 an40 : Option Addr} {sl40 : Array (Option Value)} {oc40 kV40 dc40 pm40 cd40 ct40 : Value}
    {C41 f41 : Addr} {od41 an41 : Option Addr} {sl41 : Array (Option Value)} {oc41 kV41 dc41 pm41 cd41 ct41 : Value}
    {C42 f42 : Addr} {od42 an42 : Option Addr} {sl42 : Array (Option Value)} {oc42 kV42 dc42 pm42 cd42 ct42 : Value}
    {C43 f43 : Addr} {od43 an43 : Option Addr} {sl43 : Array (Option Value)} {oc43 kV43 dc43 pm43 cd43 ct43 : Value}
    {C44 f44 : Addr} {od44 an44 : Option Addr} {sl44 : Array (Option Value)} {oc44 kV44 dc44 pm44 cd44 ct44 : Value}
    {C45 f45 : Addr} {od45 an45 : Option Addr} {sl45 : Array (Option Value)} {oc45 kV45 dc45 pm45 cd45 ct45 : Value}
    {C46 f46 : Addr} {od46 an46 : Option Addr} {sl46 : Array (Option Value)} {oc46 kV46 dc46 pm46 cd46 ct46 : Value}
    {C47 f47 : Addr} {od47 an47 : Option Addr} {sl47 : Array (Option Value)} {oc47 kV47 dc47 pm47 cd47 ct47 : Value}
    {C48 f48 : Addr} {od48 an48 : Option Addr} {sl48 : Array (Option Value)} {oc48 kV48 dc48 pm48 cd48 ct48 : Value}
    {C49 f49 : Addr} {od49 an49 : Option Addr} {sl49 : Array (Option Value)} {oc49 kV49 dc49 pm49 cd49 ct49 : Value}
    {C50 f50 : Addr} {od50 an50 : Option Addr} {sl50 : Array (Option Value)} {oc50 kV50 dc50 pm50 cd50 ct50 : Value}
    {C51 f51 : Addr} {od51 an51 : Option Addr} {sl51 : Array (Option Value)} {oc51 kV51 dc51 pm51 cd51 ct51 : Value}
    {C52 f52 : Addr} {od52 an52 : Option Addr} {sl52 : Array (Option Value)} {oc52 kV52 dc52 pm52 cd52 ct52 : Value}
    {C53 f53 : Addr} {od53 an53 : Option Addr} {sl53 : Array (Option Value)} {oc53 kV53 dc53 pm53 cd53 ct53 : Value}
    
    
    
    
    
    
    
    
    
    (hfa : mg "law" = some (.ref fa))
    (a0 : PySem.W.nsIn K mainGlobals "copied" = some (some (.ref f0))) (l0 : K.lookup f0 = some ⟨oc0, od0, .func (PySem.W.fnOf "copied" "copied" (defArgs s_p_copied) (defBody s_p_copied) (defScope s_p_copied) .none kV0 dc0 pm0 an0 cd0 ct0), sl0⟩) (c0 : PySem.W.codeIn K cd0 "copied" = true) (k0 : PySem.W.keepIn K (.ref f0) = true)
    (a1 : PySem.W.nsIn K mainGlobals "_law_start" = some (some (.ref f1))) (l1 : K.lookup f1 = some ⟨oc1, od1, .func (PySem.W.fnOf "_law_start" "_law_start" (defArgs s_l_start) (defBody s_l_start) (defScope s_l_start) .none kV1 dc1 pm1 an1 cd1 ct1), sl1⟩) (c1 : PySem.W.codeIn K cd1 "_law_start" = true) (k1 : PySem.W.keepIn K (.ref f1) = true)
    (a2 : PySem.W.nsIn K mainGlobals "_law_draw" = some (some (.ref f2))) (l2 : K.lookup f2 = some ⟨oc2, od2, .func (PySem.W.fnOf "_law_draw" "_law_draw" (defArgs s_l_draw) (defBody s_l_draw) (defScope s_l_draw) .none kV2 dc2 pm2 an2 cd2 ct2), sl2⟩) (c2 : PySem.W.codeIn K cd2 "_law_draw" = true) (k2 : PySem.W.keepIn K (.ref f2) = true)
    (a3 : PySem.W.nsIn K mainGlobals "_law_pick" = some (some (.ref f3))) (l3 : K.lookup f3 = some ⟨oc3, od3, .func (PySem.W.fnOf "_law_pick" "_law_pick" (defArgs s_l_pick) (defBody s_l_pick) (defScope s_l_pick) .none kV3 dc3 pm3 an3 cd3 ct3), sl3⟩) (c3 : PySem.W.codeIn K cd3 "_law_pick" = true) (k3 : PySem.W.keepIn K (.ref f3) = true)
    (a4 : PySem.W.nsIn K mainGlobals "_law_letters" = some (some (.ref f4))) (l4 : K.lookup f4 = some ⟨oc4, od4, .func (PySem.W.fnOf "_law_letters" "_law_letters" (defArgs s_l_letters) (defBody s_l_letters) (defScope s_l_letters) .none kV4 dc4 pm4 an4 cd4 ct4), sl4⟩) (c4 : PySem.W.codeIn K cd4 "_law_letters" = true) (k4 : PySem.W.keepIn K (.ref f4) = true)
    (a5 : PySem.W.nsIn K mainGlobals "_law_word" = some (some (.ref f5))) (l5 : K.lookup f5 = some ⟨oc5, od5, .func (PySem.W.fnOf "_law_word" "_law_word" (defArgs s_l_word) (defBody s_l_word) (defScope s_l_word) .none kV5 dc5 pm5 an5 cd5 ct5), sl5⟩) (c5 : PySem.W.codeIn K cd5 "_law_word" = true) (k5 : PySem.W.keepIn K (.ref f5) = true)
    (a6 : PySem.W.nsIn K mainGlobals "_law_odd" = some (some (.ref f6))) (l6 : K.lookup f6 = some ⟨oc6, od6, .func (PySem.W.fnOf "_law_odd" "_law_odd" (defArgs s_l_odd) (defBody s_l_odd) (defScope s_l_odd) .none kV6 dc6 pm6 an6 cd6 ct6), sl6⟩) (c6 : PySem.W.codeIn K cd6 "_law_odd" = true) (k6 : PySem.W.keepIn K (.ref f6) = true)
    (a7 : PySem.W.nsIn K mainGlobals "_law_same" = some (some (.ref f7))) (l7 : K.lookup f7 = some ⟨oc7, od7, .func (PySem.W.fnOf "_law_same" "_law_same" (defArgs s_l_same) (defBody s_l_same) (defScope s_l_same) .none kV7 dc7 pm7 an7 cd7 ct7), sl7⟩) (c7 : PySem.W.codeIn K cd7 "_law_same" = true) (k7 : PySem.W.keepIn K (.ref f7) = true)
    (a8 : PySem.W.nsIn K mainGlobals "_law_codes" = some (some (.ref f8))) (l8 : K.lookup f8 = some ⟨oc8, od8, .func (PySem.W.fnOf "_law_codes" "_law_codes" (defArgs s_l_codes) (defBody s_l_codes) (defScope s_l_codes) .none kV8 dc8 pm8 an8 cd8 ct8), sl8⟩) (c8 : PySem.W.codeIn K cd8 "_law_codes" = true) (k8 : PySem.W.keepIn K (.ref f8) = true)
    (a9 : PySem.W.nsIn K mainGlobals "_law_by_place" = some (some (.ref f9))) (l9 : K.lookup f9 = some ⟨oc9, od9, .func (PySem.W.fnOf "_law_by_place" "_law_by_place" (defArgs s_l_by_place) (defBody s_l_by_place) (defScope s_l_by_place) .none kV9 dc9 pm9 an9 cd9 ct9), sl9⟩) (c9 : PySem.W.codeIn K cd9 "_law_by_place" = true) (k9 : PySem.W.keepIn K (.ref f9) = true)
    (a10 : PySem.W.nsIn K mainGlobals "_law_by_name" = some (some (.ref f10))) (l10 : K.lookup f10 = some ⟨oc10, od10, .func (PySem.W.fnOf "_law_by_name" "_law_by_name" (defArgs s_l_by_name) (defBody s_l_by_name) (defScope s_l_by_name) .none kV10 dc10 pm10 an10 cd10 ct10), sl10⟩) (c10 : PySem.W.codeIn K cd10 "_law_by_name" = true) (k10 : PySem.W.keepIn K (.ref f10) = true)
    (a11 : PySem.W.nsIn K mainGlobals "_law_due" = some (some (.ref f11))) (l11 : K.lookup f11 = some ⟨oc11, od11, .func (PySem.W.fnOf "_law_due" "_law_due" (defArgs s_l_due) (defBody s_l_due) (defScope s_l_due) .none kV11 dc11 pm11 an11 cd11 ct11), sl11⟩) (c11 : PySem.W.codeIn K cd11 "_law_due" = true) (k11 : PySem.W.keepIn K (.ref f11) = true)
    (a12 : PySem.W.nsIn K mainGlobals "_law_told" = some (some (.ref f12))) (l12 : K.lookup f12 = some ⟨oc12, od12, .func (PySem.W.fnOf "_law_told" "_law_told" (defArgs s_l_told) (defBody s_l_told) (defScope s_l_told) .none kV12 dc12 pm12 an12 cd12 ct12), sl12⟩) (c12 : PySem.W.codeIn K cd12 "_law_told" = true) (k12 : PySem.W.keepIn K (.ref f12) = true)
    (a13 : PySem.W.nsIn K mainGlobals "_law_kinds" = some (some (.ref f13))) (l13 : K.lookup f13 = some ⟨oc13, od13, .func (PySem.W.fnOf "_law_kinds" "_law_kinds" (defArgs s_l_kinds) (defBody s_l_kinds) (defScope s_l_kinds) .none kV13 dc13 pm13 an13 cd13 ct13), sl13⟩) (c13 : PySem.W.codeIn K cd13 "_law_kinds" = true) (k13 : PySem.W.keepIn K (.ref f13) = true)
    (a14 : PySem.W.nsIn K mainGlobals "_law_bases" = some (some (.ref f14))) (l14 : K.lookup f14 = some ⟨oc14, od14, .func (PySem.W.fnOf "_law_bases" "_law_bases" (defArgs s_l_bases) (defBody s_l_bases) (defScope s_l_bases) .none kV14 dc14 pm14 an14 cd14 ct14), sl14⟩) (c14 : PySem.W.codeIn K cd14 "_law_bases" = true) (k14 : PySem.W.keepIn K (.ref f14) = true)
    (a15 : PySem.W.nsIn K mainGlobals "_law_all_so" = some (some (.ref f15))) (l15 : K.lookup f15 = some ⟨oc15, od15, .func (PySem.W.fnOf "_law_all_so" "_law_all_so" (defArgs s_l_all_so) (defBody s_l_all_so) (defScope s_l_all_so) .none kV15 dc15 pm15 an15 cd15 ct15), sl15⟩) (c15 : PySem.W.codeIn K cd15 "_law_all_so" = true) (k15 : PySem.W.keepIn K (.ref f15) = true)
    (a16 : PySem.W.nsIn K mainGlobals "_law_raised" = some (some (.ref f16))) (l16 : K.lookup f16 = some ⟨oc16, od16, .func (PySem.W.fnOf "_law_raised" "_law_raised" (defArgs s_l_raised) (defBody s_l_raised) (defScope s_l_raised) .none kV16 dc16 pm16 an16 cd16 ct16), sl16⟩) (c16 : PySem.W.codeIn K cd16 "_law_raised" = true) (k16 : PySem.W.keepIn K (.ref f16) = true)
    (a17 : PySem.W.nsIn K mainGlobals "law" = some (some (.ref f17))) (l17 : K.lookup f17 = some ⟨oc17, od17, .func (PySem.W.fnOf "law" "law" (defArgs s_p_law) (defBody s_p_law) (defScope s_p_law) .none kV17 dc17 pm17 an17 cd17 ct17), sl17⟩) (c17 : PySem.W.codeIn K cd17 "law" = true) (k17 : PySem.W.keepIn K (.ref f17) = true)
    (z_len : PySem.W.nsIn K mainGlobals "len" = some none)
    (z_range : PySem.W.nsIn K mainGlobals "range" = some none)
    (z_int : PySem.W.nsIn K mainGlobals "int" = some none)
    (z_abs : PySem.W.nsIn K mainGlobals "abs" = some none)
    (z_isinstance : PySem.W.nsIn K mainGlobals "isinstance" = some none)
    (z_all : PySem.W.nsIn K mainGlobals "all" = some none)
    (z_any : PySem.W.nsIn K mainGlobals "any" = some none)
    (z_sorted : PySem.W.nsIn K mainGlobals "sorted" = some none)
    (z_set : PySem.W.nsIn K mainGlobals "set" = some none)
    (z_list : PySem.W.nsIn K mainGlobals "list" = some none)
    (z_tuple : PySem.W.nsIn K mainGlobals "tuple" = some none)
    (z_str : PySem.W.nsIn K mainGlobals "str" = some none)
    (z_bool : PySem.W.nsIn K mainGlobals "bool" = some none)
    (z_enumerate : PySem.W.nsIn K mainGlobals "enumerate" = some none)
    (z_min : PySem.W.nsIn K mainGlobals "min" = some none)
    (z_max : PySem.W.nsIn K mainGlobals "max" = some none)
    (ab1 : PySem.W.nsIn K mainGlobals "FindError" = some (some (.ref b1)))
    (ab2 : PySem.W.nsIn K mainGlobals "Missing" = some (some (.ref b2)))
    (a18 : PySem.W.nsIn K mainGlobals "InvalidName" = some (some (.ref C18)))
    (ei18 : PySem.W.excInitIn K C18 [.type "ValueError", .type "Exception", .type "BaseException", .type "object"] "ValueError.__new__" = true)
    (eo18 : PySem.W.excOver K C18 [.type "ValueError", .type "Exception", .type "BaseException", .type "object"] = true)
    (sa18 : PySem.W.findIn K (.ref C18) "__setattr__" = some (some (.builtin "object.__setattr__")))
    (ex18 : PySem.W.subIn K (.ref C18) (.type "BaseException") = some true)
    (ty18 : PySem.W.typeIn K (.ref C18) = some (.type "type"))
    (kC18 : PySem.W.keepIn K (.ref C18) = true)
    (hd18 : PySem.W.hasDictIn K C18 = true)
    (ga18 : PySem.W.findIn K (.ref C18) "__getattribute__" = some (some (.builtin "BaseException.__getattribute__")))
    (gg18 : PySem.W.findIn K (.ref C18) "__getattr__" = some none)
    (in18 : PySem.W.findIn K (.ref C18) "__init__" = some (some (.ref f18)))
    (ti18 : PySem.W.typeIn K (.ref f18) = some (.type "function"))
    (l18 : K.lookup f18 = some ⟨oc18, od18, .func (PySem.W.fnOf "__init__" "InvalidName.__init__" (defArgs s_c_InvalidName_init) (defBody s_c_InvalidName_init) (defScope s_c_InvalidName_init) .none kV18 dc18 pm18 an18 cd18 ct18), sl18⟩) (c18 : PySem.W.codeIn K cd18 "InvalidName.__init__" = true) (k18 : PySem.W.keepIn K (.ref f18) = true)
    (nf18_0 : PySem.W.findIn K (.ref C18) "value" = some none)
    (nf18_1 : PySem.W.findIn K (.ref C18) "code" = some none)
    (a19 : PySem.W.nsIn K mainGlobals "InvalidLot" = some (some (.ref C19)))
    (ei19 : PySem.W.excInitIn K C19 [.type "ValueError", .type "Exception", .type "BaseException", .type "object"] "ValueError.__new__" = true)
    (eo19 : PySem.W.excOver K C19 [.type "ValueError", .type "Exception", .type "BaseException", .type "object"] = true)
    (sa19 : PySem.W.findIn K (.ref C19) "__setattr__" = some (some (.builtin "object.__setattr__")))
    (ex19 : PySem.W.subIn K (.ref C19) (.type "BaseException") = some true)
    (ty19 : PySem.W.typeIn K (.ref C19) = some (.type "type"))
    (kC19 : PySem.W.keepIn K (.ref C19) = true)
    (hd19 : PySem.W.hasDictIn K C19 = true)
    (ga19 : PySem.W.findIn K (.ref C19) "__getattribute__" = some (some (.builtin "BaseException.__getattribute__")))
    (gg19 : PySem.W.findIn K (.ref C19) "__getattr__" = some none)
    (in19 : PySem.W.findIn K (.ref C19) "__init__" = some (some (.ref f19)))
    (ti19 : PySem.W.typeIn K (.ref f19) = some (.type "function"))
    (l19 : K.lookup f19 = some ⟨oc19, od19, .func (PySem.W.fnOf "__init__" "InvalidLot.__init__" (defArgs s_c_InvalidLot_init) (defBody s_c_InvalidLot_init) (defScope s_c_InvalidLot_init) .none kV19 dc19 pm19 an19 cd19 ct19), sl19⟩) (c19 : PySem.W.codeIn K cd19 "InvalidLot.__init__" = true) (k19 : PySem.W.keepIn K (.ref f19) = true)
    (nf19_0 : PySem.W.findIn K (.ref C19) "at" = some none)
    (nf19_1 : PySem.W.findIn K (.ref C19) "code" = some none)
    (a20 : PySem.W.nsIn K mainGlobals "InvalidFind" = some (some (.ref C20)))
    (ei20 : PySem.W.excInitIn K C20 [.type "ValueError", .type "Exception", .type "BaseException", .type "object"] "ValueError.__new__" = true)
    (eo20 : PySem.W.excOver K C20 [.type "ValueError", .type "Exception", .type "BaseException", .type "object"] = true)
    (sa20 : PySem.W.findIn K (.ref C20) "__setattr__" = some (some (.builtin "object.__setattr__")))
    (ex20 : PySem.W.subIn K (.ref C20) (.type "BaseException") = some true)
    (ty20 : PySem.W.typeIn K (.ref C20) = some (.type "type"))
    (kC20 : PySem.W.keepIn K (.ref C20) = true)
    (hd20 : PySem.W.hasDictIn K C20 = true)
    (ga20 : PySem.W.findIn K (.ref C20) "__getattribute__" = some (some (.builtin "BaseException.__getattribute__")))
    (gg20 : PySem.W.findIn K (.ref C20) "__getattr__" = some none)
    (in20 : PySem.W.findIn K (.ref C20) "__init__" = some (some (.ref f20)))
    (ti20 : PySem.W.typeIn K (.ref f20) = some (.type "function"))
    (l20 : K.lookup f20 = some ⟨oc20, od20, .func (PySem.W.fnOf "__init__" "InvalidFind.__init__" (defArgs s_c_InvalidFind_init) (defBody s_c_InvalidFind_init) (defScope s_c_InvalidFind_init) .none kV20 dc20 pm20 an20 cd20 ct20), sl20⟩) (c20 : PySem.W.codeIn K cd20 "InvalidFind.__init__" = true) (k20 : PySem.W.keepIn K (.ref f20) = true)
    (nf20_0 : PySem.W.findIn K (.ref C20) "at" = some none)
    (nf20_1 : PySem.W.findIn K (.ref C20) "code" = some none)
    (a21 : PySem.W.nsIn K mainGlobals "InvalidWord" = some (some (.ref C21)))
    (ei21 : PySem.W.excInitIn K C21 [.type "ValueError", .type "Exception", .type "BaseException", .type "object"] "ValueError.__new__" = true)
    (eo21 : PySem.W.excOver K C21 [.type "ValueError", .type "Exception", .type "BaseException", .type "object"] = true)
    (sa21 : PySem.W.findIn K (.ref C21) "__setattr__" = some (some (.builtin "object.__setattr__")))
    (ex21 : PySem.W.subIn K (.ref C21) (.type "BaseException") = some true)
    (ty21 : PySem.W.typeIn K (.ref C21) = some (.type "type"))
    (kC21 : PySem.W.keepIn K (.ref C21) = true)
    (hd21 : PySem.W.hasDictIn K C21 = true)
    (ga21 : PySem.W.findIn K (.ref C21) "__getattribute__" = some (some (.builtin "BaseException.__getattribute__")))
    (gg21 : PySem.W.findIn K (.ref C21) "__getattr__" = some none)
    (in21 : PySem.W.findIn K (.ref C21) "__init__" = some (some (.ref f21)))
    (ti21 : PySem.W.typeIn K (.ref f21) = some (.type "function"))
    (l21 : K.lookup f21 = some ⟨oc21, od21, .func (PySem.W.fnOf "__init__" "InvalidWord.__init__" (defArgs s_c_InvalidWord_init) (defBody s_c_InvalidWord_init) (defScope s_c_InvalidWord_init) .none kV21 dc21 pm21 an21 cd21 ct21), sl21⟩) (c21 : PySem.W.codeIn K cd21 "InvalidWord.__init__" = true) (k21 : PySem.W.keepIn K (.ref f21) = true)
    (nf21_0 : PySem.W.findIn K (.ref C21) "at" = some none)
    (nf21_1 : PySem.W.findIn K (.ref C21) "code" = some none)
    (a22 : PySem.W.nsIn K mainGlobals "InvalidFact" = some (some (.ref C22)))
    (ei22 : PySem.W.excInitIn K C22 [.type "ValueError", .type "Exception", .type "BaseException", .type "object"] "ValueError.__new__" = true)
    (eo22 : PySem.W.excOver K C22 [.type "ValueError", .type "Exception", .type "BaseException", .type "object"] = true)
    (sa22 : PySem.W.findIn K (.ref C22) "__setattr__" = some (some (.builtin "object.__setattr__")))
    (ex22 : PySem.W.subIn K (.ref C22) (.type "BaseException") = some true)
    (ty22 : PySem.W.typeIn K (.ref C22) = some (.type "type"))
    (kC22 : PySem.W.keepIn K (.ref C22) = true)
    (hd22 : PySem.W.hasDictIn K C22 = true)
    (ga22 : PySem.W.findIn K (.ref C22) "__getattribute__" = some (some (.builtin "BaseException.__getattribute__")))
    (gg22 : PySem.W.findIn K (.ref C22) "__getattr__" = some none)
    (in22 : PySem.W.findIn K (.ref C22) "__init__" = some (some (.ref f22)))
    (ti22 : PySem.W.typeIn K (.ref f22) = some (.type "function"))
    (l22 : K.lookup f22 = some ⟨oc22, od22, .func (PySem.W.fnOf "__init__" "InvalidFact.__init__" (defArgs s_c_InvalidFact_init) (defBody s_c_InvalidFact_init) (defScope s_c_InvalidFact_init) .none kV22 dc22 pm22 an22 cd22 ct22), sl22⟩) (c22 : PySem.W.codeIn K cd22 "InvalidFact.__init__" = true) (k22 : PySem.W.keepIn K (.ref f22) = true)
    (nf22_0 : PySem.W.findIn K (.ref C22) "at" = some none)
    (nf22_1 : PySem.W.findIn K (.ref C22) "code" = some none)
    (a23 : PySem.W.nsIn K mainGlobals "InvalidOrder" = some (some (.ref C23)))
    (ei23 : PySem.W.excInitIn K C23 [.type "ValueError", .type "Exception", .type "BaseException", .type "object"] "ValueError.__new__" = true)
    (eo23 : PySem.W.excOver K C23 [.type "ValueError", .type "Exception", .type "BaseException", .type "object"] = true)
    (sa23 : PySem.W.findIn K (.ref C23) "__setattr__" = some (some (.builtin "object.__setattr__")))
    (ex23 : PySem.W.subIn K (.ref C23) (.type "BaseException") = some true)
    (ty23 : PySem.W.typeIn K (.ref C23) = some (.type "type"))
    (kC23 : PySem.W.keepIn K (.ref C23) = true)
    (hd23 : PySem.W.hasDictIn K C23 = true)
    (ga23 : PySem.W.findIn K (.ref C23) "__getattribute__" = some (some (.builtin "BaseException.__getattribute__")))
    (gg23 : PySem.W.findIn K (.ref C23) "__getattr__" = some none)
    (in23 : PySem.W.findIn K (.ref C23) "__init__" = some (some (.ref f23)))
    (ti23 : PySem.W.typeIn K (.ref f23) = some (.type "function"))
    (l23 : K.lookup f23 = some ⟨oc23, od23, .func (PySem.W.fnOf "__init__" "InvalidOrder.__init__" (defArgs s_c_InvalidOrder_init) (defBody s_c_InvalidOrder_init) (defScope s_c_InvalidOrder_init) .none kV23 dc23 pm23 an23 cd23 ct23), sl23⟩) (c23 : PySem.W.codeIn K cd23 "InvalidOrder.__init__" = true) (k23 : PySem.W.keepIn K (.ref f23) = true)
    (nf23_0 : PySem.W.findIn K (.ref C23) "at" = some none)
    (nf23_1 : PySem.W.findIn K (.ref C23) "code" = some none)
    (a24 : PySem.W.nsIn K mainGlobals "InvalidKind" = some (some (.ref C24)))
    (ei24 : PySem.W.excInitIn K C24 [.type "ValueError", .type "Exception", .type "BaseException", .type "object"] "ValueError.__new__" = true)
    (eo24 : PySem.W.excOver K C24 [.type "ValueError", .type "Exception", .type "BaseException", .type "object"] = true)
    (sa24 : PySem.W.findIn K (.ref C24) "__setattr__" = some (some (.builtin "object.__setattr__")))
    (ex24 : PySem.W.subIn K (.ref C24) (.type "BaseException") = some true)
    (ty24 : PySem.W.typeIn K (.ref C24) = some (.type "type"))
    (kC24 : PySem.W.keepIn K (.ref C24) = true)
    (hd24 : PySem.W.hasDictIn K C24 = true)
    (ga24 : PySem.W.findIn K (.ref C24) "__getattribute__" = some (some (.builtin "BaseException.__getattribute__")))
    (gg24 : PySem.W.findIn K (.ref C24) "__getattr__" = some none)
    (in24 : PySem.W.findIn K (.ref C24) "__init__" = some (some (.ref f24)))
    (ti24 : PySem.W.typeIn K (.ref f24) = some (.type "function"))
    (l24 : K.lookup f24 = some ⟨oc24, od24, .func (PySem.W.fnOf "__init__" "InvalidKind.__init__" (defArgs s_c_InvalidKind_init) (defBody s_c_InvalidKind_init) (defScope s_c_InvalidKind_init) .none kV24 dc24 pm24 an24 cd24 ct24), sl24⟩) (c24 : PySem.W.codeIn K cd24 "InvalidKind.__init__" = true) (k24 : PySem.W.keepIn K (.ref f24) = true)
    (nf24_0 : PySem.W.findIn K (.ref C24) "at" = some none)
    (nf24_1 : PySem.W.findIn K (.ref C24) "code" = some none)
    (a25 : PySem.W.nsIn K mainGlobals "InvalidPair" = some (some (.ref C25)))
    (ei25 : PySem.W.excInitIn K C25 [.type "ValueError", .type "Exception", .type "BaseException", .type "object"] "ValueError.__new__" = true)
    (eo25 : PySem.W.excOver K C25 [.type "ValueError", .type "Exception", .type "BaseException", .type "object"] = true)
    (sa25 : PySem.W.findIn K (.ref C25) "__setattr__" = some (some (.builtin "object.__setattr__")))
    (ex25 : PySem.W.subIn K (.ref C25) (.type "BaseException") = some true)
    (ty25 : PySem.W.typeIn K (.ref C25) = some (.type "type"))
    (kC25 : PySem.W.keepIn K (.ref C25) = true)
    (hd25 : PySem.W.hasDictIn K C25 = true)
    (ga25 : PySem.W.findIn K (.ref C25) "__getattribute__" = some (some (.builtin "BaseException.__getattribute__")))
    (gg25 : PySem.W.findIn K (.ref C25) "__getattr__" = some none)
    (in25 : PySem.W.findIn K (.ref C25) "__init__" = some (some (.ref f25)))
    (ti25 : PySem.W.typeIn K (.ref f25) = some (.type "function"))
    (l25 : K.lookup f25 = some ⟨oc25, od25, .func (PySem.W.fnOf "__init__" "InvalidPair.__init__" (defArgs s_c_InvalidPair_init) (defBody s_c_InvalidPair_init) (defScope s_c_InvalidPair_init) .none kV25 dc25 pm25 an25 cd25 ct25), sl25⟩) (c25 : PySem.W.codeIn K cd25 "InvalidPair.__init__" = true) (k25 : PySem.W.keepIn K (.ref f25) = true)
    (nf25_0 : PySem.W.findIn K (.ref C25) "at" = some none)
    (nf25_1 : PySem.W.findIn K (.ref C25) "code" = some none)
    (a26 : PySem.W.nsIn K mainGlobals "InvalidDeed" = some (some (.ref C26)))
    (ei26 : PySem.W.excInitIn K C26 [.type "ValueError", .type "Exception", .type "BaseException", .type "object"] "ValueError.__new__" = true)
    (eo26 : PySem.W.excOver K C26 [.type "ValueError", .type "Exception", .type "BaseException", .type "object"] = true)
    (sa26 : PySem.W.findIn K (.ref C26) "__setattr__" = some (some (.builtin "object.__setattr__")))
    (ex26 : PySem.W.subIn K (.ref C26) (.type "BaseException") = some true)
    (ty26 : PySem.W.typeIn K (.ref C26) = some (.type "type"))
    (kC26 : PySem.W.keepIn K (.ref C26) = true)
    (hd26 : PySem.W.hasDictIn K C26 = true)
    (ga26 : PySem.W.findIn K (.ref C26) "__getattribute__" = some (some (.builtin "BaseException.__getattribute__")))
    (gg26 : PySem.W.findIn K (.ref C26) "__getattr__" = some none)
    (in26 : PySem.W.findIn K (.ref C26) "__init__" = some (some (.ref f26)))
    (ti26 : PySem.W.typeIn K (.ref f26) = some (.type "function"))
    (l26 : K.lookup f26 = some ⟨oc26, od26, .func (PySem.W.fnOf "__init__" "InvalidDeed.__init__" (defArgs s_c_InvalidDeed_init) (defBody s_c_InvalidDeed_init) (defScope s_c_InvalidDeed_init) .none kV26 dc26 pm26 an26 cd26 ct26), sl26⟩) (c26 : PySem.W.codeIn K cd26 "InvalidDeed.__init__" = true) (k26 : PySem.W.keepIn K (.ref f26) = true)
    (nf26_0 : PySem.W.findIn K (.ref C26) "at" = some none)
    (nf26_1 : PySem.W.findIn K (.ref C26) "code" = some none)
    (a27 : PySem.W.nsIn K mainGlobals "InvalidText" = some (some (.ref C27)))
    (ei27 : PySem.W.excInitIn K C27 [.type "ValueError", .type "Exception", .type "BaseException", .type "object"] "ValueError.__new__" = true)
    (eo27 : PySem.W.excOver K C27 [.type "ValueError", .type "Exception", .type "BaseException", .type "object"] = true)
    (sa27 : PySem.W.findIn K (.ref C27) "__setattr__" = some (some (.builtin "object.__setattr__")))
    (ex27 : PySem.W.subIn K (.ref C27) (.type "BaseException") = some true)
    (ty27 : PySem.W.typeIn K (.ref C27) = some (.type "type"))
    (kC27 : PySem.W.keepIn K (.ref C27) = true)
    (hd27 : PySem.W.hasDictIn K C27 = true)
    (ga27 : PySem.W.findIn K (.ref C27) "__getattribute__" = some (some (.builtin "BaseException.__getattribute__")))
    (gg27 : PySem.W.findIn K (.ref C27) "__getattr__" = some none)
    (in27 : PySem.W.findIn K (.ref C27) "__init__" = some (some (.ref f27)))
    (ti27 : PySem.W.typeIn K (.ref f27) = some (.type "function"))
    (l27 : K.lookup f27 = some ⟨oc27, od27, .func (PySem.W.fnOf "__init__" "InvalidText.__init__" (defArgs s_c_InvalidText_init) (defBody s_c_InvalidText_init) (defScope s_c_InvalidText_init) .none kV27 dc27 pm27 an27 cd27 ct27), sl27⟩) (c27 : PySem.W.codeIn K cd27 "InvalidText.__init__" = true) (k27 : PySem.W.keepIn K (.ref f27) = true)
    (nf27_0 : PySem.W.findIn K (.ref C27) "line" = some none)
    (nf27_1 : PySem.W.findIn K (.ref C27) "why" = some none)
    (nf27_2 : PySem.W.findIn K (.ref C27) "code" = some none)
    (a28 : PySem.W.nsIn K mainGlobals "InvalidNumber" = some (some (.ref C28)))
    (ei28 : PySem.W.excInitIn K C28 [.type "ValueError", .type "Exception", .type "BaseException", .type "object"] "ValueError.__new__" = true)
    (eo28 : PySem.W.excOver K C28 [.type "ValueError", .type "Exception", .type "BaseException", .type "object"] = true)
    (sa28 : PySem.W.findIn K (.ref C28) "__setattr__" = some (some (.builtin "object.__setattr__")))
    (ex28 : PySem.W.subIn K (.ref C28) (.type "BaseException") = some true)
    (ty28 : PySem.W.typeIn K (.ref C28) = some (.type "type"))
    (kC28 : PySem.W.keepIn K (.ref C28) = true)
    (hd28 : PySem.W.hasDictIn K C28 = true)
    (ga28 : PySem.W.findIn K (.ref C28) "__getattribute__" = some (some (.builtin "BaseException.__getattribute__")))
    (gg28 : PySem.W.findIn K (.ref C28) "__getattr__" = some none)
    (in28 : PySem.W.findIn K (.ref C28) "__init__" = some (some (.ref f28)))
    (ti28 : PySem.W.typeIn K (.ref f28) = some (.type "function"))
    (l28 : K.lookup f28 = some ⟨oc28, od28, .func (PySem.W.fnOf "__init__" "InvalidNumber.__init__" (defArgs s_c_InvalidNumber_init) (defBody s_c_InvalidNumber_init) (defScope s_c_InvalidNumber_init) .none kV28 dc28 pm28 an28 cd28 ct28), sl28⟩) (c28 : PySem.W.codeIn K cd28 "InvalidNumber.__init__" = true) (k28 : PySem.W.keepIn K (.ref f28) = true)
    (nf28_0 : PySem.W.findIn K (.ref C28) "value" = some none)
    (nf28_1 : PySem.W.findIn K (.ref C28) "code" = some none)
    (a29 : PySem.W.nsIn K mainGlobals "InvalidStatement" = some (some (.ref C29)))
    (ei29 : PySem.W.excInitIn K C29 [.type "ValueError", .type "Exception", .type "BaseException", .type "object"] "ValueError.__new__" = true)
    (eo29 : PySem.W.excOver K C29 [.type "ValueError", .type "Exception", .type "BaseException", .type "object"] = true)
    (sa29 : PySem.W.findIn K (.ref C29) "__setattr__" = some (some (.builtin "object.__setattr__")))
    (ex29 : PySem.W.subIn K (.ref C29) (.type "BaseException") = some true)
    (ty29 : PySem.W.typeIn K (.ref C29) = some (.type "type"))
    (kC29 : PySem.W.keepIn K (.ref C29) = true)
    (hd29 : PySem.W.hasDictIn K C29 = true)
    (ga29 : PySem.W.findIn K (.ref C29) "__getattribute__" = some (some (.builtin "BaseException.__getattribute__")))
    (gg29 : PySem.W.findIn K (.ref C29) "__getattr__" = some none)
    (in29 : PySem.W.findIn K (.ref C29) "__init__" = some (some (.ref f29)))
    (ti29 : PySem.W.typeIn K (.ref f29) = some (.type "function"))
    (l29 : K.lookup f29 = some ⟨oc29, od29, .func (PySem.W.fnOf "__init__" "InvalidStatement.__init__" (defArgs s_c_InvalidStatement_init) (defBody s_c_InvalidStatement_init) (defScope s_c_InvalidStatement_init) .none kV29 dc29 pm29 an29 cd29 ct29), sl29⟩) (c29 : PySem.W.codeIn K cd29 "InvalidStatement.__init__" = true) (k29 : PySem.W.keepIn K (.ref f29) = true)
    (nf29_0 : PySem.W.findIn K (.ref C29) "code" = some none)
    (a30 : PySem.W.nsIn K mainGlobals "InvalidQuestion" = some (some (.ref C30)))
    (ei30 : PySem.W.excInitIn K C30 [.type "ValueError", .type "Exception", .type "BaseException", .type "object"] "ValueError.__new__" = true)
    (eo30 : PySem.W.excOver K C30 [.type "ValueError", .type "Exception", .type "BaseException", .type "object"] = true)
    (sa30 : PySem.W.findIn K (.ref C30) "__setattr__" = some (some (.builtin "object.__setattr__")))
    (ex30 : PySem.W.subIn K (.ref C30) (.type "BaseException") = some true)
    (ty30 : PySem.W.typeIn K (.ref C30) = some (.type "type"))
    (kC30 : PySem.W.keepIn K (.ref C30) = true)
    (hd30 : PySem.W.hasDictIn K C30 = true)
    (ga30 : PySem.W.findIn K (.ref C30) "__getattribute__" = some (some (.builtin "BaseException.__getattribute__")))
    (gg30 : PySem.W.findIn K (.ref C30) "__getattr__" = some none)
    (in30 : PySem.W.findIn K (.ref C30) "__init__" = some (some (.ref f30)))
    (ti30 : PySem.W.typeIn K (.ref f30) = some (.type "function"))
    (l30 : K.lookup f30 = some ⟨oc30, od30, .func (PySem.W.fnOf "__init__" "InvalidQuestion.__init__" (defArgs s_c_InvalidQuestion_init) (defBody s_c_InvalidQuestion_init) (defScope s_c_InvalidQuestion_init) .none kV30 dc30 pm30 an30 cd30 ct30), sl30⟩) (c30 : PySem.W.codeIn K cd30 "InvalidQuestion.__init__" = true) (k30 : PySem.W.keepIn K (.ref f30) = true)
    (nf30_0 : PySem.W.findIn K (.ref C30) "code" = some none)
    (a31 : PySem.W.nsIn K mainGlobals "InvalidClaim" = some (some (.ref C31)))
    (ei31 : PySem.W.excInitIn K C31 [.type "ValueError", .type "Exception", .type "BaseException", .type "object"] "ValueError.__new__" = true)
    (eo31 : PySem.W.excOver K C31 [.type "ValueError", .type "Exception", .type "BaseException", .type "object"] = true)
    (sa31 : PySem.W.findIn K (.ref C31) "__setattr__" = some (some (.builtin "object.__setattr__")))
    (ex31 : PySem.W.subIn K (.ref C31) (.type "BaseException") = some true)
    (ty31 : PySem.W.typeIn K (.ref C31) = some (.type "type"))
    (kC31 : PySem.W.keepIn K (.ref C31) = true)
    (hd31 : PySem.W.hasDictIn K C31 = true)
    (ga31 : PySem.W.findIn K (.ref C31) "__getattribute__" = some (some (.builtin "BaseException.__getattribute__")))
    (gg31 : PySem.W.findIn K (.ref C31) "__getattr__" = some none)
    (in31 : PySem.W.findIn K (.ref C31) "__init__" = some (some (.ref f31)))
    (ti31 : PySem.W.typeIn K (.ref f31) = some (.type "function"))
    (l31 : K.lookup f31 = some ⟨oc31, od31, .func (PySem.W.fnOf "__init__" "InvalidClaim.__init__" (defArgs s_c_InvalidClaim_init) (defBody s_c_InvalidClaim_init) (defScope s_c_InvalidClaim_init) .none kV31 dc31 pm31 an31 cd31 ct31), sl31⟩) (c31 : PySem.W.codeIn K cd31 "InvalidClaim.__init__" = true) (k31 : PySem.W.keepIn K (.ref f31) = true)
    (nf31_0 : PySem.W.findIn K (.ref C31) "code" = some none)
    (a32 : PySem.W.nsIn K mainGlobals "InvalidTimes" = some (some (.ref C32)))
    (ei32 : PySem.W.excInitIn K C32 [.type "ValueError", .type "Exception", .type "BaseException", .type "object"] "ValueError.__new__" = true)
    (eo32 : PySem.W.excOver K C32 [.type "ValueError", .type "Exception", .type "BaseException", .type "object"] = true)
    (sa32 : PySem.W.findIn K (.ref C32) "__setattr__" = some (some (.builtin "object.__setattr__")))
    (ex32 : PySem.W.subIn K (.ref C32) (.type "BaseException") = some true)
    (ty32 : PySem.W.typeIn K (.ref C32) = some (.type "type"))
    (kC32 : PySem.W.keepIn K (.ref C32) = true)
    (hd32 : PySem.W.hasDictIn K C32 = true)
    (ga32 : PySem.W.findIn K (.ref C32) "__getattribute__" = some (some (.builtin "BaseException.__getattribute__")))
    (gg32 : PySem.W.findIn K (.ref C32) "__getattr__" = some none)
    (in32 : PySem.W.findIn K (.ref C32) "__init__" = some (some (.ref f32)))
    (ti32 : PySem.W.typeIn K (.ref f32) = some (.type "function"))
    (l32 : K.lookup f32 = some ⟨oc32, od32, .func (PySem.W.fnOf "__init__" "InvalidTimes.__init__" (defArgs s_c_InvalidTimes_init) (defBody s_c_InvalidTimes_init) (defScope s_c_InvalidTimes_init) .none kV32 dc32 pm32 an32 cd32 ct32), sl32⟩) (c32 : PySem.W.codeIn K cd32 "InvalidTimes.__init__" = true) (k32 : PySem.W.keepIn K (.ref f32) = true)
    (nf32_0 : PySem.W.findIn K (.ref C32) "name" = some none)
    (nf32_1 : PySem.W.findIn K (.ref C32) "code" = some none)
    (a33 : PySem.W.nsIn K mainGlobals "InvalidWeights" = some (some (.ref C33)))
    (ei33 : PySem.W.excInitIn K C33 [.type "ValueError", .type "Exception", .type "BaseException", .type "object"] "ValueError.__new__" = true)
    (eo33 : PySem.W.excOver K C33 [.type "ValueError", .type "Exception", .type "BaseException", .type "object"] = true)
    (sa33 : PySem.W.findIn K (.ref C33) "__setattr__" = some (some (.builtin "object.__setattr__")))
    (ex33 : PySem.W.subIn K (.ref C33) (.type "BaseException") = some true)
    (ty33 : PySem.W.typeIn K (.ref C33) = some (.type "type"))
    (kC33 : PySem.W.keepIn K (.ref C33) = true)
    (hd33 : PySem.W.hasDictIn K C33 = true)
    (ga33 : PySem.W.findIn K (.ref C33) "__getattribute__" = some (some (.builtin "BaseException.__getattribute__")))
    (gg33 : PySem.W.findIn K (.ref C33) "__getattr__" = some none)
    (in33 : PySem.W.findIn K (.ref C33) "__init__" = some (some (.ref f33)))
    (ti33 : PySem.W.typeIn K (.ref f33) = some (.type "function"))
    (l33 : K.lookup f33 = some ⟨oc33, od33, .func (PySem.W.fnOf "__init__" "InvalidWeights.__init__" (defArgs s_c_InvalidWeights_init) (defBody s_c_InvalidWeights_init) (defScope s_c_InvalidWeights_init) .none kV33 dc33 pm33 an33 cd33 ct33), sl33⟩) (c33 : PySem.W.codeIn K cd33 "InvalidWeights.__init__" = true) (k33 : PySem.W.keepIn K (.ref f33) = true)
    (nf33_0 : PySem.W.findIn K (.ref C33) "name" = some none)
    (nf33_1 : PySem.W.findIn K (.ref C33) "code" = some none)
    (a34 : PySem.W.nsIn K mainGlobals "DuplicateName" = some (some (.ref C34)))
    (ei34 : PySem.W.excInitIn K C34 [.type "ValueError", .type "Exception", .type "BaseException", .type "object"] "ValueError.__new__" = true)
    (eo34 : PySem.W.excOver K C34 [.type "ValueError", .type "Exception", .type "BaseException", .type "object"] = true)
    (sa34 : PySem.W.findIn K (.ref C34) "__setattr__" = some (some (.builtin "object.__setattr__")))
    (ex34 : PySem.W.subIn K (.ref C34) (.type "BaseException") = some true)
    (ty34 : PySem.W.typeIn K (.ref C34) = some (.type "type"))
    (kC34 : PySem.W.keepIn K (.ref C34) = true)
    (hd34 : PySem.W.hasDictIn K C34 = true)
    (ga34 : PySem.W.findIn K (.ref C34) "__getattribute__" = some (some (.builtin "BaseException.__getattribute__")))
    (gg34 : PySem.W.findIn K (.ref C34) "__getattr__" = some none)
    (in34 : PySem.W.findIn K (.ref C34) "__init__" = some (some (.ref f34)))
    (ti34 : PySem.W.typeIn K (.ref f34) = some (.type "function"))
    (l34 : K.lookup f34 = some ⟨oc34, od34, .func (PySem.W.fnOf "__init__" "DuplicateName.__init__" (defArgs s_c_DuplicateName_init) (defBody s_c_DuplicateName_init) (defScope s_c_DuplicateName_init) .none kV34 dc34 pm34 an34 cd34 ct34), sl34⟩) (c34 : PySem.W.codeIn K cd34 "DuplicateName.__init__" = true) (k34 : PySem.W.keepIn K (.ref f34) = true)
    (nf34_0 : PySem.W.findIn K (.ref C34) "name" = some none)
    (nf34_1 : PySem.W.findIn K (.ref C34) "code" = some none)
    (a35 : PySem.W.nsIn K mainGlobals "TooMany" = some (some (.ref C35)))
    (ei35 : PySem.W.excInitIn K C35 [.type "ValueError", .type "Exception", .type "BaseException", .type "object"] "ValueError.__new__" = true)
    (eo35 : PySem.W.excOver K C35 [.type "ValueError", .type "Exception", .type "BaseException", .type "object"] = true)
    (sa35 : PySem.W.findIn K (.ref C35) "__setattr__" = some (some (.builtin "object.__setattr__")))
    (ex35 : PySem.W.subIn K (.ref C35) (.type "BaseException") = some true)
    (ty35 : PySem.W.typeIn K (.ref C35) = some (.type "type"))
    (kC35 : PySem.W.keepIn K (.ref C35) = true)
    (hd35 : PySem.W.hasDictIn K C35 = true)
    (ga35 : PySem.W.findIn K (.ref C35) "__getattribute__" = some (some (.builtin "BaseException.__getattribute__")))
    (gg35 : PySem.W.findIn K (.ref C35) "__getattr__" = some none)
    (in35 : PySem.W.findIn K (.ref C35) "__init__" = some (some (.ref f35)))
    (ti35 : PySem.W.typeIn K (.ref f35) = some (.type "function"))
    (l35 : K.lookup f35 = some ⟨oc35, od35, .func (PySem.W.fnOf "__init__" "TooMany.__init__" (defArgs s_c_TooMany_init) (defBody s_c_TooMany_init) (defScope s_c_TooMany_init) .none kV35 dc35 pm35 an35 cd35 ct35), sl35⟩) (c35 : PySem.W.codeIn K cd35 "TooMany.__init__" = true) (k35 : PySem.W.keepIn K (.ref f35) = true)
    (nf35_0 : PySem.W.findIn K (.ref C35) "most" = some none)
    (nf35_1 : PySem.W.findIn K (.ref C35) "code" = some none)
    (a36 : PySem.W.nsIn K mainGlobals "TooFew" = some (some (.ref C36)))
    (ei36 : PySem.W.excInitIn K C36 [.type "ValueError", .type "Exception", .type "BaseException", .type "object"] "ValueError.__new__" = true)
    (eo36 : PySem.W.excOver K C36 [.type "ValueError", .type "Exception", .type "BaseException", .type "object"] = true)
    (sa36 : PySem.W.findIn K (.ref C36) "__setattr__" = some (some (.builtin "object.__setattr__")))
    (ex36 : PySem.W.subIn K (.ref C36) (.type "BaseException") = some true)
    (ty36 : PySem.W.typeIn K (.ref C36) = some (.type "type"))
    (kC36 : PySem.W.keepIn K (.ref C36) = true)
    (hd36 : PySem.W.hasDictIn K C36 = true)
    (ga36 : PySem.W.findIn K (.ref C36) "__getattribute__" = some (some (.builtin "BaseException.__getattribute__")))
    (gg36 : PySem.W.findIn K (.ref C36) "__getattr__" = some none)
    (in36 : PySem.W.findIn K (.ref C36) "__init__" = some (some (.ref f36)))
    (ti36 : PySem.W.typeIn K (.ref f36) = some (.type "function"))
    (l36 : K.lookup f36 = some ⟨oc36, od36, .func (PySem.W.fnOf "__init__" "TooFew.__init__" (defArgs s_c_TooFew_init) (defBody s_c_TooFew_init) (defScope s_c_TooFew_init) .none kV36 dc36 pm36 an36 cd36 ct36), sl36⟩) (c36 : PySem.W.codeIn K cd36 "TooFew.__init__" = true) (k36 : PySem.W.keepIn K (.ref f36) = true)
    (nf36_0 : PySem.W.findIn K (.ref C36) "least" = some none)
    (nf36_1 : PySem.W.findIn K (.ref C36) "code" = some none)
    (a37 : PySem.W.nsIn K mainGlobals "CannotStand" = some (some (.ref C37)))
    (ei37 : PySem.W.excInitIn K C37 [.type "ValueError", .type "Exception", .type "BaseException", .type "object"] "ValueError.__new__" = true)
    (eo37 : PySem.W.excOver K C37 [.type "ValueError", .type "Exception", .type "BaseException", .type "object"] = true)
    (sa37 : PySem.W.findIn K (.ref C37) "__setattr__" = some (some (.builtin "object.__setattr__")))
    (ex37 : PySem.W.subIn K (.ref C37) (.type "BaseException") = some true)
    (ty37 : PySem.W.typeIn K (.ref C37) = some (.type "type"))
    (kC37 : PySem.W.keepIn K (.ref C37) = true)
    (hd37 : PySem.W.hasDictIn K C37 = true)
    (ga37 : PySem.W.findIn K (.ref C37) "__getattribute__" = some (some (.builtin "BaseException.__getattribute__")))
    (gg37 : PySem.W.findIn K (.ref C37) "__getattr__" = some none)
    (in37 : PySem.W.findIn K (.ref C37) "__init__" = some (some (.ref f37)))
    (ti37 : PySem.W.typeIn K (.ref f37) = some (.type "function"))
    (l37 : K.lookup f37 = some ⟨oc37, od37, .func (PySem.W.fnOf "__init__" "CannotStand.__init__" (defArgs s_c_CannotStand_init) (defBody s_c_CannotStand_init) (defScope s_c_CannotStand_init) .none kV37 dc37 pm37 an37 cd37 ct37), sl37⟩) (c37 : PySem.W.codeIn K cd37 "CannotStand.__init__" = true) (k37 : PySem.W.keepIn K (.ref f37) = true)
    (nf37_0 : PySem.W.findIn K (.ref C37) "one" = some none)
    (nf37_1 : PySem.W.findIn K (.ref C37) "two" = some none)
    (nf37_2 : PySem.W.findIn K (.ref C37) "three" = some none)
    (nf37_3 : PySem.W.findIn K (.ref C37) "code" = some none)
    (a38 : PySem.W.nsIn K mainGlobals "Standing" = some (some (.ref C38)))
    (ei38 : PySem.W.excInitIn K C38 [.type "ValueError", .type "Exception", .type "BaseException", .type "object"] "ValueError.__new__" = true)
    (eo38 : PySem.W.excOver K C38 [.type "ValueError", .type "Exception", .type "BaseException", .type "object"] = true)
    (sa38 : PySem.W.findIn K (.ref C38) "__setattr__" = some (some (.builtin "object.__setattr__")))
    (ex38 : PySem.W.subIn K (.ref C38) (.type "BaseException") = some true)
    (ty38 : PySem.W.typeIn K (.ref C38) = some (.type "type"))
    (kC38 : PySem.W.keepIn K (.ref C38) = true)
    (hd38 : PySem.W.hasDictIn K C38 = true)
    (ga38 : PySem.W.findIn K (.ref C38) "__getattribute__" = some (some (.builtin "BaseException.__getattribute__")))
    (gg38 : PySem.W.findIn K (.ref C38) "__getattr__" = some none)
    (in38 : PySem.W.findIn K (.ref C38) "__init__" = some (some (.ref f38)))
    (ti38 : PySem.W.typeIn K (.ref f38) = some (.type "function"))
    (l38 : K.lookup f38 = some ⟨oc38, od38, .func (PySem.W.fnOf "__init__" "Standing.__init__" (defArgs s_c_Standing_init) (defBody s_c_Standing_init) (defScope s_c_Standing_init) .none kV38 dc38 pm38 an38 cd38 ct38), sl38⟩) (c38 : PySem.W.codeIn K cd38 "Standing.__init__" = true) (k38 : PySem.W.keepIn K (.ref f38) = true)
    (nf38_0 : PySem.W.findIn K (.ref C38) "code" = some none)
    (a39 : PySem.W.nsIn K mainGlobals "Clash" = some (some (.ref C39)))
    (ei39 : PySem.W.excInitIn K C39 [.type "ValueError", .type "Exception", .type "BaseException", .type "object"] "ValueError.__new__" = true)
    (eo39 : PySem.W.excOver K C39 [.type "ValueError", .type "Exception", .type "BaseException", .type "object"] = true)
    (sa39 : PySem.W.findIn K (.ref C39) "__setattr__" = some (some (.builtin "object.__setattr__")))
    (ex39 : PySem.W.subIn K (.ref C39) (.type "BaseException") = some true)
    (ty39 : PySem.W.typeIn K (.ref C39) = some (.type "type"))
    (kC39 : PySem.W.keepIn K (.ref C39) = true)
    (hd39 : PySem.W.hasDictIn K C39 = true)
    (ga39 : PySem.W.findIn K (.ref C39) "__getattribute__" = some (some (.builtin "BaseException.__getattribute__")))
    (gg39 : PySem.W.findIn K (.ref C39) "__getattr__" = some none)
    (in39 : PySem.W.findIn K (.ref C39) "__init__" = some (some (.ref f39)))
    (ti39 : PySem.W.typeIn K (.ref f39) = some (.type "function"))
    (l39 : K.lookup f39 = some ⟨oc39, od39, .func (PySem.W.fnOf "__init__" "Clash.__init__" (defArgs s_c_Clash_init) (defBody s_c_Clash_init) (defScope s_c_Clash_init) .none kV39 dc39 pm39 an39 cd39 ct39), sl39⟩) (c39 : PySem.W.codeIn K cd39 "Clash.__init__" = true) (k39 : PySem.W.keepIn K (.ref f39) = true)
    (nf39_0 : PySem.W.findIn K (.ref C39) "marks" = some none)
    (nf39_1 : PySem.W.findIn K (.ref C39) "code" = some none)
    (a40 : PySem.W.nsIn K mainGlobals "NotFitting" = some (some (.ref C40)))
    (ei40 : PySem.W.excInitIn K C40 [.type "ValueError", .type "Exception", .type "BaseException", .type "object"] "ValueError.__new__" = true)
    (eo40 : PySem.W.excOver K C40 [.type "ValueError", .type "Exception", .type "BaseException", .type "object"] = true)
    (sa40 : PySem.W.findIn K (.ref C40) "__setattr__" = some (some (.builtin "object.__setattr__")))
    (ex40 : PySem.W.subIn K (.ref C40) (.type "BaseException") = some true)
    (ty40 : PySem.W.typeIn K (.ref C40) = some (.type "type"))
    (kC40 : PySem.W.keepIn K (.ref C40) = true)
    (hd40 : PySem.W.hasDictIn K C40 = true)
    (ga40 : PySem.W.findIn K (.ref C40) "__getattribute__" = some (some (.builtin "BaseException.__getattribute__")))
    (gg40 : PySem.W.findIn K (.ref C40) "__getattr__" = some none)
    (in40 : PySem.W.findIn K (.ref C40) "__init__" = some (some (.ref f40)))
    (ti40 : PySem.W.typeIn K (.ref f40) = some (.type "function"))
    (l40 : K.lookup f40 = some ⟨oc40, od40, .func (PySem.W.fnOf "__init__" "NotFitting.__init__" (defArgs s_c_NotFitting_init) (defBody s_c_NotFitting_init) (defScope s_c_NotFitting_init) .none kV40 dc40 pm40 an40 cd40 ct40), sl40⟩) (c40 : PySem.W.codeIn K cd40 "NotFitting.__init__" = true) (k40 : PySem.W.keepIn K (.ref f40) = true)
    (nf40_0 : PySem.W.findIn K (.ref C40) "code" = some none)
    (a41 : PySem.W.nsIn K mainGlobals "NotShown" = some (some (.ref C41)))
    (ei41 : PySem.W.excInitIn K C41 [.type "ValueError", .type "Exception", .type "BaseException", .type "object"] "ValueError.__new__" = true)
    (eo41 : PySem.W.excOver K C41 [.type "ValueError", .type "Exception", .type "BaseException", .type "object"] = true)
    (sa41 : PySem.W.findIn K (.ref C41) "__setattr__" = some (some (.builtin "object.__setattr__")))
    (ex41 : PySem.W.subIn K (.ref C41) (.type "BaseException") = some true)
    (ty41 : PySem.W.typeIn K (.ref C41) = some (.type "type"))
    (kC41 : PySem.W.keepIn K (.ref C41) = true)
    (hd41 : PySem.W.hasDictIn K C41 = true)
    (ga41 : PySem.W.findIn K (.ref C41) "__getattribute__" = some (some (.builtin "BaseException.__getattribute__")))
    (gg41 : PySem.W.findIn K (.ref C41) "__getattr__" = some none)
    (in41 : PySem.W.findIn K (.ref C41) "__init__" = some (some (.ref f41)))
    (ti41 : PySem.W.typeIn K (.ref f41) = some (.type "function"))
    (l41 : K.lookup f41 = some ⟨oc41, od41, .func (PySem.W.fnOf "__init__" "NotShown.__init__" (defArgs s_c_NotShown_init) (defBody s_c_NotShown_init) (defScope s_c_NotShown_init) .none kV41 dc41 pm41 an41 cd41 ct41), sl41⟩) (c41 : PySem.W.codeIn K cd41 "NotShown.__init__" = true) (k41 : PySem.W.keepIn K (.ref f41) = true)
    (nf41_0 : PySem.W.findIn K (.ref C41) "code" = some none)
    (a42 : PySem.W.nsIn K mainGlobals "NotABlock" = some (some (.ref C42)))
    (ei42 : PySem.W.excInitIn K C42 [.type "ValueError", .type "Exception", .type "BaseException", .type "object"] "ValueError.__new__" = true)
    (eo42 : PySem.W.excOver K C42 [.type "ValueError", .type "Exception", .type "BaseException", .type "object"] = true)
    (sa42 : PySem.W.findIn K (.ref C42) "__setattr__" = some (some (.builtin "object.__setattr__")))
    (ex42 : PySem.W.subIn K (.ref C42) (.type "BaseException") = some true)
    (ty42 : PySem.W.typeIn K (.ref C42) = some (.type "type"))
    (kC42 : PySem.W.keepIn K (.ref C42) = true)
    (hd42 : PySem.W.hasDictIn K C42 = true)
    (ga42 : PySem.W.findIn K (.ref C42) "__getattribute__" = some (some (.builtin "BaseException.__getattribute__")))
    (gg42 : PySem.W.findIn K (.ref C42) "__getattr__" = some none)
    (in42 : PySem.W.findIn K (.ref C42) "__init__" = some (some (.ref f42)))
    (ti42 : PySem.W.typeIn K (.ref f42) = some (.type "function"))
    (l42 : K.lookup f42 = some ⟨oc42, od42, .func (PySem.W.fnOf "__init__" "NotABlock.__init__" (defArgs s_c_NotABlock_init) (defBody s_c_NotABlock_init) (defScope s_c_NotABlock_init) .none kV42 dc42 pm42 an42 cd42 ct42), sl42⟩) (c42 : PySem.W.codeIn K cd42 "NotABlock.__init__" = true) (k42 : PySem.W.keepIn K (.ref f42) = true)
    (nf42_0 : PySem.W.findIn K (.ref C42) "lot" = some none)
    (nf42_1 : PySem.W.findIn K (.ref C42) "code" = some none)
    (a43 : PySem.W.nsIn K mainGlobals "OtherFinds" = some (some (.ref C43)))
    (ei43 : PySem.W.excInitIn K C43 [.type "ValueError", .type "Exception", .type "BaseException", .type "object"] "ValueError.__new__" = true)
    (eo43 : PySem.W.excOver K C43 [.type "ValueError", .type "Exception", .type "BaseException", .type "object"] = true)
    (sa43 : PySem.W.findIn K (.ref C43) "__setattr__" = some (some (.builtin "object.__setattr__")))
    (ex43 : PySem.W.subIn K (.ref C43) (.type "BaseException") = some true)
    (ty43 : PySem.W.typeIn K (.ref C43) = some (.type "type"))
    (kC43 : PySem.W.keepIn K (.ref C43) = true)
    (hd43 : PySem.W.hasDictIn K C43 = true)
    (ga43 : PySem.W.findIn K (.ref C43) "__getattribute__" = some (some (.builtin "BaseException.__getattribute__")))
    (gg43 : PySem.W.findIn K (.ref C43) "__getattr__" = some none)
    (in43 : PySem.W.findIn K (.ref C43) "__init__" = some (some (.ref f43)))
    (ti43 : PySem.W.typeIn K (.ref f43) = some (.type "function"))
    (l43 : K.lookup f43 = some ⟨oc43, od43, .func (PySem.W.fnOf "__init__" "OtherFinds.__init__" (defArgs s_c_OtherFinds_init) (defBody s_c_OtherFinds_init) (defScope s_c_OtherFinds_init) .none kV43 dc43 pm43 an43 cd43 ct43), sl43⟩) (c43 : PySem.W.codeIn K cd43 "OtherFinds.__init__" = true) (k43 : PySem.W.keepIn K (.ref f43) = true)
    (nf43_0 : PySem.W.findIn K (.ref C43) "code" = some none)
    (a44 : PySem.W.nsIn K mainGlobals "Same" = some (some (.ref C44)))
    (ei44 : PySem.W.excInitIn K C44 [.type "ValueError", .type "Exception", .type "BaseException", .type "object"] "ValueError.__new__" = true)
    (eo44 : PySem.W.excOver K C44 [.type "ValueError", .type "Exception", .type "BaseException", .type "object"] = true)
    (sa44 : PySem.W.findIn K (.ref C44) "__setattr__" = some (some (.builtin "object.__setattr__")))
    (ex44 : PySem.W.subIn K (.ref C44) (.type "BaseException") = some true)
    (ty44 : PySem.W.typeIn K (.ref C44) = some (.type "type"))
    (kC44 : PySem.W.keepIn K (.ref C44) = true)
    (hd44 : PySem.W.hasDictIn K C44 = true)
    (ga44 : PySem.W.findIn K (.ref C44) "__getattribute__" = some (some (.builtin "BaseException.__getattribute__")))
    (gg44 : PySem.W.findIn K (.ref C44) "__getattr__" = some none)
    (in44 : PySem.W.findIn K (.ref C44) "__init__" = some (some (.ref f44)))
    (ti44 : PySem.W.typeIn K (.ref f44) = some (.type "function"))
    (l44 : K.lookup f44 = some ⟨oc44, od44, .func (PySem.W.fnOf "__init__" "Same.__init__" (defArgs s_c_Same_init) (defBody s_c_Same_init) (defScope s_c_Same_init) .none kV44 dc44 pm44 an44 cd44 ct44), sl44⟩) (c44 : PySem.W.codeIn K cd44 "Same.__init__" = true) (k44 : PySem.W.keepIn K (.ref f44) = true)
    (nf44_0 : PySem.W.findIn K (.ref C44) "name" = some none)
    (nf44_1 : PySem.W.findIn K (.ref C44) "code" = some none)
    (a45 : PySem.W.nsIn K mainGlobals "NoTable" = some (some (.ref C45)))
    (ei45 : PySem.W.excInitIn K C45 [.type "ValueError", .type "Exception", .type "BaseException", .type "object"] "ValueError.__new__" = true)
    (eo45 : PySem.W.excOver K C45 [.type "ValueError", .type "Exception", .type "BaseException", .type "object"] = true)
    (sa45 : PySem.W.findIn K (.ref C45) "__setattr__" = some (some (.builtin "object.__setattr__")))
    (ex45 : PySem.W.subIn K (.ref C45) (.type "BaseException") = some true)
    (ty45 : PySem.W.typeIn K (.ref C45) = some (.type "type"))
    (kC45 : PySem.W.keepIn K (.ref C45) = true)
    (hd45 : PySem.W.hasDictIn K C45 = true)
    (ga45 : PySem.W.findIn K (.ref C45) "__getattribute__" = some (some (.builtin "BaseException.__getattribute__")))
    (gg45 : PySem.W.findIn K (.ref C45) "__getattr__" = some none)
    (in45 : PySem.W.findIn K (.ref C45) "__init__" = some (some (.ref f45)))
    (ti45 : PySem.W.typeIn K (.ref f45) = some (.type "function"))
    (l45 : K.lookup f45 = some ⟨oc45, od45, .func (PySem.W.fnOf "__init__" "NoTable.__init__" (defArgs s_c_NoTable_init) (defBody s_c_NoTable_init) (defScope s_c_NoTable_init) .none kV45 dc45 pm45 an45 cd45 ct45), sl45⟩) (c45 : PySem.W.codeIn K cd45 "NoTable.__init__" = true) (k45 : PySem.W.keepIn K (.ref f45) = true)
    (nf45_0 : PySem.W.findIn K (.ref C45) "why" = some none)
    (nf45_1 : PySem.W.findIn K (.ref C45) "found" = some none)
    (nf45_2 : PySem.W.findIn K (.ref C45) "code" = some none)
    (a46 : PySem.W.nsIn K mainGlobals "Taken" = some (some (.ref C46)))
    (ei46 : PySem.W.excInitIn K C46 [.type "ValueError", .type "Exception", .type "BaseException", .type "object"] "ValueError.__new__" = true)
    (eo46 : PySem.W.excOver K C46 [.type "ValueError", .type "Exception", .type "BaseException", .type "object"] = true)
    (sa46 : PySem.W.findIn K (.ref C46) "__setattr__" = some (some (.builtin "object.__setattr__")))
    (ex46 : PySem.W.subIn K (.ref C46) (.type "BaseException") = some true)
    (ty46 : PySem.W.typeIn K (.ref C46) = some (.type "type"))
    (kC46 : PySem.W.keepIn K (.ref C46) = true)
    (hd46 : PySem.W.hasDictIn K C46 = true)
    (ga46 : PySem.W.findIn K (.ref C46) "__getattribute__" = some (some (.builtin "BaseException.__getattribute__")))
    (gg46 : PySem.W.findIn K (.ref C46) "__getattr__" = some none)
    (in46 : PySem.W.findIn K (.ref C46) "__init__" = some (some (.ref f46)))
    (ti46 : PySem.W.typeIn K (.ref f46) = some (.type "function"))
    (l46 : K.lookup f46 = some ⟨oc46, od46, .func (PySem.W.fnOf "__init__" "Taken.__init__" (defArgs s_c_Taken_init) (defBody s_c_Taken_init) (defScope s_c_Taken_init) .none kV46 dc46 pm46 an46 cd46 ct46), sl46⟩) (c46 : PySem.W.codeIn K cd46 "Taken.__init__" = true) (k46 : PySem.W.keepIn K (.ref f46) = true)
    (nf46_0 : PySem.W.findIn K (.ref C46) "name" = some none)
    (nf46_1 : PySem.W.findIn K (.ref C46) "code" = some none)
    (a47 : PySem.W.nsIn K mainGlobals "InUse" = some (some (.ref C47)))
    (ei47 : PySem.W.excInitIn K C47 [.type "ValueError", .type "Exception", .type "BaseException", .type "object"] "ValueError.__new__" = true)
    (eo47 : PySem.W.excOver K C47 [.type "ValueError", .type "Exception", .type "BaseException", .type "object"] = true)
    (sa47 : PySem.W.findIn K (.ref C47) "__setattr__" = some (some (.builtin "object.__setattr__")))
    (ex47 : PySem.W.subIn K (.ref C47) (.type "BaseException") = some true)
    (ty47 : PySem.W.typeIn K (.ref C47) = some (.type "type"))
    (kC47 : PySem.W.keepIn K (.ref C47) = true)
    (hd47 : PySem.W.hasDictIn K C47 = true)
    (ga47 : PySem.W.findIn K (.ref C47) "__getattribute__" = some (some (.builtin "BaseException.__getattribute__")))
    (gg47 : PySem.W.findIn K (.ref C47) "__getattr__" = some none)
    (in47 : PySem.W.findIn K (.ref C47) "__init__" = some (some (.ref f47)))
    (ti47 : PySem.W.typeIn K (.ref f47) = some (.type "function"))
    (l47 : K.lookup f47 = some ⟨oc47, od47, .func (PySem.W.fnOf "__init__" "InUse.__init__" (defArgs s_c_InUse_init) (defBody s_c_InUse_init) (defScope s_c_InUse_init) .none kV47 dc47 pm47 an47 cd47 ct47), sl47⟩) (c47 : PySem.W.codeIn K cd47 "InUse.__init__" = true) (k47 : PySem.W.keepIn K (.ref f47) = true)
    (nf47_0 : PySem.W.findIn K (.ref C47) "mark" = some none)
    (nf47_1 : PySem.W.findIn K (.ref C47) "code" = some none)
    (a48 : PySem.W.nsIn K mainGlobals "NoFinds" = some (some (.ref C48)))
    (ei48 : PySem.W.excInitIn K C48 [.type "ValueError", .type "Exception", .type "BaseException", .type "object"] "ValueError.__new__" = true)
    (eo48 : PySem.W.excOver K C48 [.type "ValueError", .type "Exception", .type "BaseException", .type "object"] = true)
    (sa48 : PySem.W.findIn K (.ref C48) "__setattr__" = some (some (.builtin "object.__setattr__")))
    (ex48 : PySem.W.subIn K (.ref C48) (.type "BaseException") = some true)
    (ty48 : PySem.W.typeIn K (.ref C48) = some (.type "type"))
    (kC48 : PySem.W.keepIn K (.ref C48) = true)
    (hd48 : PySem.W.hasDictIn K C48 = true)
    (ga48 : PySem.W.findIn K (.ref C48) "__getattribute__" = some (some (.builtin "BaseException.__getattribute__")))
    (gg48 : PySem.W.findIn K (.ref C48) "__getattr__" = some none)
    (in48 : PySem.W.findIn K (.ref C48) "__init__" = some (some (.ref f48)))
    (ti48 : PySem.W.typeIn K (.ref f48) = some (.type "function"))
    (l48 : K.lookup f48 = some ⟨oc48, od48, .func (PySem.W.fnOf "__init__" "NoFinds.__init__" (defArgs s_c_NoFinds_init) (defBody s_c_NoFinds_init) (defScope s_c_NoFinds_init) .none kV48 dc48 pm48 an48 cd48 ct48), sl48⟩) (c48 : PySem.W.codeIn K cd48 "NoFinds.__init__" = true) (k48 : PySem.W.keepIn K (.ref f48) = true)
    (nf48_0 : PySem.W.findIn K (.ref C48) "code" = some none)
    (a49 : PySem.W.nsIn K mainGlobals "UnknownName" = some (some (.ref C49)))
    (ei49 : PySem.W.excInitIn K C49 [.type "LookupError", .type "Exception", .type "BaseException", .type "object"] "LookupError.__new__" = true)
    (eo49 : PySem.W.excOver K C49 [.type "LookupError", .type "Exception", .type "BaseException", .type "object"] = true)
    (sa49 : PySem.W.findIn K (.ref C49) "__setattr__" = some (some (.builtin "object.__setattr__")))
    (ex49 : PySem.W.subIn K (.ref C49) (.type "BaseException") = some true)
    (ty49 : PySem.W.typeIn K (.ref C49) = some (.type "type"))
    (kC49 : PySem.W.keepIn K (.ref C49) = true)
    (hd49 : PySem.W.hasDictIn K C49 = true)
    (ga49 : PySem.W.findIn K (.ref C49) "__getattribute__" = some (some (.builtin "BaseException.__getattribute__")))
    (gg49 : PySem.W.findIn K (.ref C49) "__getattr__" = some none)
    (in49 : PySem.W.findIn K (.ref C49) "__init__" = some (some (.ref f49)))
    (ti49 : PySem.W.typeIn K (.ref f49) = some (.type "function"))
    (l49 : K.lookup f49 = some ⟨oc49, od49, .func (PySem.W.fnOf "__init__" "UnknownName.__init__" (defArgs s_c_UnknownName_init) (defBody s_c_UnknownName_init) (defScope s_c_UnknownName_init) .none kV49 dc49 pm49 an49 cd49 ct49), sl49⟩) (c49 : PySem.W.codeIn K cd49 "UnknownName.__init__" = true) (k49 : PySem.W.keepIn K (.ref f49) = true)
    (nf49_0 : PySem.W.findIn K (.ref C49) "name" = some none)
    (nf49_1 : PySem.W.findIn K (.ref C49) "code" = some none)
    (a50 : PySem.W.nsIn K mainGlobals "UnknownFind" = some (some (.ref C50)))
    (ei50 : PySem.W.excInitIn K C50 [.type "LookupError", .type "Exception", .type "BaseException", .type "object"] "LookupError.__new__" = true)
    (eo50 : PySem.W.excOver K C50 [.type "LookupError", .type "Exception", .type "BaseException", .type "object"] = true)
    (sa50 : PySem.W.findIn K (.ref C50) "__setattr__" = some (some (.builtin "object.__setattr__")))
    (ex50 : PySem.W.subIn K (.ref C50) (.type "BaseException") = some true)
    (ty50 : PySem.W.typeIn K (.ref C50) = some (.type "type"))
    (kC50 : PySem.W.keepIn K (.ref C50) = true)
    (hd50 : PySem.W.hasDictIn K C50 = true)
    (ga50 : PySem.W.findIn K (.ref C50) "__getattribute__" = some (some (.builtin "BaseException.__getattribute__")))
    (gg50 : PySem.W.findIn K (.ref C50) "__getattr__" = some none)
    (in50 : PySem.W.findIn K (.ref C50) "__init__" = some (some (.ref f50)))
    (ti50 : PySem.W.typeIn K (.ref f50) = some (.type "function"))
    (l50 : K.lookup f50 = some ⟨oc50, od50, .func (PySem.W.fnOf "__init__" "UnknownFind.__init__" (defArgs s_c_UnknownFind_init) (defBody s_c_UnknownFind_init) (defScope s_c_UnknownFind_init) .none kV50 dc50 pm50 an50 cd50 ct50), sl50⟩) (c50 : PySem.W.codeIn K cd50 "UnknownFind.__init__" = true) (k50 : PySem.W.keepIn K (.ref f50) = true)
    (nf50_0 : PySem.W.findIn K (.ref C50) "name" = some none)
    (nf50_1 : PySem.W.findIn K (.ref C50) "code" = some none)
    (a51 : PySem.W.nsIn K mainGlobals "UnknownNode" = some (some (.ref C51)))
    (ei51 : PySem.W.excInitIn K C51 [.type "LookupError", .type "Exception", .type "BaseException", .type "object"] "LookupError.__new__" = true)
    (eo51 : PySem.W.excOver K C51 [.type "LookupError", .type "Exception", .type "BaseException", .type "object"] = true)
    (sa51 : PySem.W.findIn K (.ref C51) "__setattr__" = some (some (.builtin "object.__setattr__")))
    (ex51 : PySem.W.subIn K (.ref C51) (.type "BaseException") = some true)
    (ty51 : PySem.W.typeIn K (.ref C51) = some (.type "type"))
    (kC51 : PySem.W.keepIn K (.ref C51) = true)
    (hd51 : PySem.W.hasDictIn K C51 = true)
    (ga51 : PySem.W.findIn K (.ref C51) "__getattribute__" = some (some (.builtin "BaseException.__getattribute__")))
    (gg51 : PySem.W.findIn K (.ref C51) "__getattr__" = some none)
    (in51 : PySem.W.findIn K (.ref C51) "__init__" = some (some (.ref f51)))
    (ti51 : PySem.W.typeIn K (.ref f51) = some (.type "function"))
    (l51 : K.lookup f51 = some ⟨oc51, od51, .func (PySem.W.fnOf "__init__" "UnknownNode.__init__" (defArgs s_c_UnknownNode_init) (defBody s_c_UnknownNode_init) (defScope s_c_UnknownNode_init) .none kV51 dc51 pm51 an51 cd51 ct51), sl51⟩) (c51 : PySem.W.codeIn K cd51 "UnknownNode.__init__" = true) (k51 : PySem.W.keepIn K (.ref f51) = true)
    (nf51_0 : PySem.W.findIn K (.ref C51) "lot" = some none)
    (nf51_1 : PySem.W.findIn K (.ref C51) "code" = some none)
    (a52 : PySem.W.nsIn K mainGlobals "UnknownKept" = some (some (.ref C52)))
    (ei52 : PySem.W.excInitIn K C52 [.type "LookupError", .type "Exception", .type "BaseException", .type "object"] "LookupError.__new__" = true)
    (eo52 : PySem.W.excOver K C52 [.type "LookupError", .type "Exception", .type "BaseException", .type "object"] = true)
    (sa52 : PySem.W.findIn K (.ref C52) "__setattr__" = some (some (.builtin "object.__setattr__")))
    (ex52 : PySem.W.subIn K (.ref C52) (.type "BaseException") = some true)
    (ty52 : PySem.W.typeIn K (.ref C52) = some (.type "type"))
    (kC52 : PySem.W.keepIn K (.ref C52) = true)
    (hd52 : PySem.W.hasDictIn K C52 = true)
    (ga52 : PySem.W.findIn K (.ref C52) "__getattribute__" = some (some (.builtin "BaseException.__getattribute__")))
    (gg52 : PySem.W.findIn K (.ref C52) "__getattr__" = some none)
    (in52 : PySem.W.findIn K (.ref C52) "__init__" = some (some (.ref f52)))
    (ti52 : PySem.W.typeIn K (.ref f52) = some (.type "function"))
    (l52 : K.lookup f52 = some ⟨oc52, od52, .func (PySem.W.fnOf "__init__" "UnknownKept.__init__" (defArgs s_c_UnknownKept_init) (defBody s_c_UnknownKept_init) (defScope s_c_UnknownKept_init) .none kV52 dc52 pm52 an52 cd52 ct52), sl52⟩) (c52 : PySem.W.codeIn K cd52 "UnknownKept.__init__" = true) (k52 : PySem.W.keepIn K (.ref f52) = true)
    (nf52_0 : PySem.W.findIn K (.ref C52) "at" = some none)
    (nf52_1 : PySem.W.findIn K (.ref C52) "code" = some none)
    (a53 : PySem.W.nsIn K mainGlobals "NothingLeft" = some (some (.ref C53)))
    (ei53 : PySem.W.excInitIn K C53 [.type "IndexError", .type "LookupError", .type "Exception", .type "BaseException", .type "object"] "IndexError.__new__" = true)
    (eo53 : PySem.W.excOver K C53 [.type "IndexError", .type "LookupError", .type "Exception", .type "BaseException", .type "object"] = true)
    (sa53 : PySem.W.findIn K (.ref C53) "__setattr__" = some (some (.builtin "object.__setattr__")))
    (ex53 : PySem.W.subIn K (.ref C53) (.type "BaseException") = some true)
    (ty53 : PySem.W.typeIn K (.ref C53) = some (.type "type"))
    (kC53 : PySem.W.keepIn K (.ref C53) = true)
    (hd53 : PySem.W.hasDictIn K C53 = true)
    (ga53 : PySem.W.findIn K (.ref C53) "__getattribute__" = some (some (.builtin "BaseException.__getattribute__")))
    (gg53 : PySem.W.findIn K (.ref C53) "__getattr__" = some none)
    (in53 : PySem.W.findIn K (.ref C53) "__init__" = some (some (.ref f53)))
    (ti53 : PySem.W.typeIn K (.ref f53) = some (.type "function"))
    (l53 : K.lookup f53 = some ⟨oc53, od53, .func (PySem.W.fnOf "__init__" "NothingLeft.__init__" (defArgs s_c_NothingLeft_init) (defBody s_c_NothingLeft_init) (defScope s_c_NothingLeft_init) .none kV53 dc53 pm53 an53 cd53 ct53), sl53⟩) (c53 : PySem.W.codeIn K cd53 "NothingLeft.__init__" = true) (k53 : PySem.W.keepIn K (.ref f53) = true)
    (nf53_0 : PySem.W.findIn K (.ref C53) "code" = some none)
    (xKit : (([(Str.ofString "InvalidName", C18), (Str.ofString "InvalidLot", C19), (Str.ofString "InvalidFind", C20), (Str.ofString "InvalidWord", C21), (Str.ofString "InvalidFact", C22), (Str.ofString "InvalidOrder", C23), (Str.ofString "InvalidKind", C24), (Str.ofString "InvalidPair", C25), (Str.ofString "InvalidDeed", C26), (Str.ofString "InvalidText", C27), (Str.ofString "InvalidNumber", C28), (Str.ofString "InvalidStatement", C29), (Str.ofString "InvalidQuestion", C30), (Str.ofString "InvalidClaim", C31), (Str.ofString "InvalidTimes", C32), (Str.ofString "InvalidWeights", C33), (Str.ofString "DuplicateName", C34), (Str.ofString "TooMany", C35), (Str.ofString "TooFew", C36), (Str.ofString "CannotStand", C37), (Str.ofString "Standing", C38), (Str.ofString "Clash", C39), (Str.ofString "NotFitting", C40), (Str.ofString "NotShown", C41), (Str.ofString "NotABlock", C42), (Str.ofString "OtherFinds", C43), (Str.ofString "Same", C44), (Str.ofString "NoTable", C45), (Str.ofString "Taken", C46), (Str.ofString "InUse", C47), (Str.ofString "NoFinds", C48), (Str.ofString "UnknownName", C49), (Str.ofString "UnknownFind", C50), (Str.ofString "UnknownNode", C51), (Str.ofString "UnknownKept", C52), (Str.ofString "NothingLeft", C53)] : List (Str × Addr)).all fun p => ([(Str.ofString "InvalidName", C18), (Str.ofString "InvalidLot", C19), (Str.ofString "InvalidFind", C20), (Str.ofString "InvalidWord", C21), (Str.ofString "InvalidFact", C22), (Str.ofString "InvalidOrder", C23), (Str.ofString "InvalidKind", C24), (Str.ofString "InvalidPair", C25), (Str.ofString "InvalidDeed", C26), (Str.ofString "InvalidText", C27), (Str.ofString "InvalidNumber", C28), (Str.ofString "InvalidStatement", C29), (Str.ofString "InvalidQuestion", C30), (Str.ofString "InvalidClaim", C31), (Str.ofString "InvalidTimes", C32), (Str.ofString "InvalidWeights", C33), (Str.ofString "DuplicateName", C34), (Str.ofString "TooMany", C35), (Str.ofString "TooFew", C36), (Str.ofString "CannotStand", C37), (Str.ofString "Standing", C38), (Str.ofString "Clash", C39), (Str.ofString "NotFitting", C40), (Str.ofString "NotShown", C41), (Str.ofString "NotABlock", C42), (Str.ofString "OtherFinds", C43), (Str.ofString "Same", C44), (Str.ofString "NoTable", C45), (Str.ofString "Taken", C46), (Str.ofString "InUse", C47), (Str.ofString "NoFinds", C48), (Str.ofString "UnknownName", C49), (Str.ofString "UnknownFind", C50), (Str.ofString "UnknownNode", C51), (Str.ofString "UnknownKept", C52), (Str.ofString "NothingLeft", C53)] : List (Str × Addr)).all fun q => PySem.W.kitOne K (.ref p.2) (.ref q.2) == some (decide (p.1 = q.1))) = true) (xExc : ([(Str.ofString "InvalidName", C18), (Str.ofString "InvalidLot", C19), (Str.ofString "InvalidFind", C20), (Str.ofString "InvalidWord", C21), (Str.ofString "InvalidFact", C22), (Str.ofString "InvalidOrder", C23), (Str.ofString "InvalidKind", C24), (Str.ofString "InvalidPair", C25), (Str.ofString "InvalidDeed", C26), (Str.ofString "InvalidText", C27), (Str.ofString "InvalidNumber", C28), (Str.ofString "InvalidStatement", C29), (Str.ofString "InvalidQuestion", C30), (Str.ofString "InvalidClaim", C31), (Str.ofString "InvalidTimes", C32), (Str.ofString "InvalidWeights", C33), (Str.ofString "DuplicateName", C34), (Str.ofString "TooMany", C35), (Str.ofString "TooFew", C36), (Str.ofString "CannotStand", C37), (Str.ofString "Standing", C38), (Str.ofString "Clash", C39), (Str.ofString "NotFitting", C40), (Str.ofString "NotShown", C41), (Str.ofString "NotABlock", C42), (Str.ofString "OtherFinds", C43), (Str.ofString "Same", C44), (Str.ofString "NoTable", C45), (Str.ofString "Taken", C46), (Str.ofString "InUse", C47), (Str.ofString "NoFinds", C48), (Str.ofString "UnknownName", C49), (Str.ofString "UnknownFind", C50), (Str.ofString "UnknownNode", C51), (Str.ofString "UnknownKept", C52), (Str.ofString "NothingLeft", C53)] : List (Str × Addr)).all (fun p => excB K p.2) = true)
    (xgFE : (([(Str.ofString "InvalidName", C18), (Str.ofString "InvalidLot", C19), (Str.ofString "InvalidFind", C20), (Str.ofString "InvalidWord", C21), (Str.ofString "InvalidFact", C22), (Str.ofString "InvalidOrder", C23), (Str.ofString "InvalidKind", C24), (Str.ofString "InvalidPair", C25), (Str.ofString "InvalidDeed", C26), (Str.ofString "InvalidText", C27), (Str.ofString "InvalidNumber", C28), (Str.ofString "InvalidStatement", C29), (Str.ofString "InvalidQuestion", C30), (Str.ofString "InvalidClaim", C31), (Str.ofString "InvalidTimes", C32), (Str.ofString "InvalidWeights", C33), (Str.ofString "DuplicateName", C34), (Str.ofString "TooMany", C35), (Str.ofString "TooFew", C36), (Str.ofString "CannotStand", C37), (Str.ofString "Standing", C38), (Str.ofString "Clash", C39), (Str.ofString "NotFitting", C40), (Str.ofString "NotShown", C41), (Str.ofString "NotABlock", C42), (Str.ofString "OtherFinds", C43), (Str.ofString "Same", C44), (Str.ofString "NoTable", C45), (Str.ofString "Taken", C46), (Str.ofString "InUse", C47), (Str.ofString "NoFinds", C48), (Str.ofString "UnknownName", C49), (Str.ofString "UnknownFind", C50), (Str.ofString "UnknownNode", C51), (Str.ofString "UnknownKept", C52), (Str.ofString "NothingLeft", C53)] : List (Str × Addr)).all fun p => PySem.W.kitOne K (.ref p.2) (.ref b1) == some (findB p.1)) = true)
    (xgMI : (([(Str.ofString "InvalidName", C18), (Str.ofString "InvalidLot", C19), (Str.ofString "InvalidFind", C20), (Str.ofString "InvalidWord", C21), (Str.ofString "InvalidFact", C22), (Str.ofString "InvalidOrder", C23), (Str.ofString "InvalidKind", C24), (Str.ofString "InvalidPair", C25), (Str.ofString "InvalidDeed", C26), (Str.ofString "InvalidText", C27), (Str.ofString "InvalidNumber", C28), (Str.ofString "InvalidStatement", C29), (Str.ofString "InvalidQuestion", C30), (Str.ofString "InvalidClaim", C31), (Str.ofString "InvalidTimes", C32), (Str.ofString "InvalidWeights", C33), (Str.ofString "DuplicateName", C34), (Str.ofString "TooMany", C35), (Str.ofString "TooFew", C36), (Str.ofString "CannotStand", C37), (Str.ofString "Standing", C38), (Str.ofString "Clash", C39), (Str.ofString "NotFitting", C40), (Str.ofString "NotShown", C41), (Str.ofString "NotABlock", C42), (Str.ofString "OtherFinds", C43), (Str.ofString "Same", C44), (Str.ofString "NoTable", C45), (Str.ofString "Taken", C46), (Str.ofString "InUse", C47), (Str.ofString "NoFinds", C48), (Str.ofString "UnknownName", C49), (Str.ofString "UnknownFind", C50), (Str.ofString "UnknownNode", C51), (Str.ofString "UnknownKept", C52), (Str.ofString "NothingLeft", C53)] : List (Str × Addr)).all fun p => PySem.W.kitOne K (.ref p.2) (.ref b2) == some (missB p.1)) = true)
    (ygVE : PySem.W.nsIn K mainGlobals "ValueError" = some none) (xgVE : (([(Str.ofString "InvalidName", C18), (Str.ofString "InvalidLot", C19), (Str.ofString "InvalidFind", C20), (Str.ofString "InvalidWord", C21), (Str.ofString "InvalidFact", C22), (Str.ofString "InvalidOrder", C23), (Str.ofString "InvalidKind", C24), (Str.ofString "InvalidPair", C25), (Str.ofString "InvalidDeed", C26), (Str.ofString "InvalidText", C27), (Str.ofString "InvalidNumber", C28), (Str.ofString "InvalidStatement", C29), (Str.ofString "InvalidQuestion", C30), (Str.ofString "InvalidClaim", C31), (Str.ofString "InvalidTimes", C32), (Str.ofString "InvalidWeights", C33), (Str.ofString "DuplicateName", C34), (Str.ofString "TooMany", C35), (Str.ofString "TooFew", C36), (Str.ofString "CannotStand", C37), (Str.ofString "Standing", C38), (Str.ofString "Clash", C39), (Str.ofString "NotFitting", C40), (Str.ofString "NotShown", C41), (Str.ofString "NotABlock", C42), (Str.ofString "OtherFinds", C43), (Str.ofString "Same", C44), (Str.ofString "NoTable", C45), (Str.ofString "Taken", C46), (Str.ofString "InUse", C47), (Str.ofString "NoFinds", C48), (Str.ofString "UnknownName", C49), (Str.ofString "UnknownFind", C50), (Str.ofString "UnknownNode", C51), (Str.ofString "UnknownKept", C52), (Str.ofString "NothingLeft", C53)] : List (Str × Addr)).all fun p => PySem.W.kitOne K (.ref p.2) (.type "ValueError") == some (findB p.1)) = true)
    (ygLE : PySem.W.nsIn K mainGlobals "LookupError" = some none) (xgLE : (([(Str.ofString "InvalidName", C18), (Str.ofString "InvalidLot", C19), (Str.ofString "InvalidFind", C20), (Str.ofString "InvalidWord", C21), (Str.ofString "InvalidFact", C22), (Str.ofString "InvalidOrder", C23), (Str.ofString "InvalidKind", C24), (Str.ofString "InvalidPair", C25), (Str.ofString "InvalidDeed", C26), (Str.ofString "InvalidText", C27), (Str.ofString "InvalidNumber", C28), (Str.ofString "InvalidStatement", C29), (Str.ofString "InvalidQuestion", C30), (Str.ofString "InvalidClaim", C31), (Str.ofString "InvalidTimes", C32), (Str.ofString "InvalidWeights", C33), (Str.ofString "DuplicateName", C34), (Str.ofString "TooMany", C35), (Str.ofString "TooFew", C36), (Str.ofString "CannotStand", C37), (Str.ofString "Standing", C38), (Str.ofString "Clash", C39), (Str.ofString "NotFitting", C40), (Str.ofString "NotShown", C41), (Str.ofString "NotABlock", C42), (Str.ofString "OtherFinds", C43), (Str.ofString "Same", C44), (Str.ofString "NoTable", C45), (Str.ofString "Taken", C46), (Str.ofString "InUse", C47), (Str.ofString "NoFinds", C48), (Str.ofString "UnknownName", C49), (Str.ofString "UnknownFind", C50), (Str.ofString "UnknownNode", C51), (Str.ofString "UnknownKept", C52), (Str.ofString "NothingLeft", C53)] : List (Str × Addr)).all fun p => PySem.W.kitOne K (.ref p.2) (.type "LookupError") == some ((fun n => missB n || lastB n) p.1)) = true)
    (ygIE : PySem.W.nsIn K mainGlobals "IndexError" = some none) (xgIE : (([(Str.ofString "InvalidName", C18), (Str.ofString "InvalidLot", C19), (Str.ofString "InvalidFind", C20), (Str.ofString "InvalidWord", C21), (Str.ofString "InvalidFact", C22), (Str.ofString "InvalidOrder", C23), (Str.ofString "InvalidKind", C24), (Str.ofString "InvalidPair", C25), (Str.ofString "InvalidDeed", C26), (Str.ofString "InvalidText", C27), (Str.ofString "InvalidNumber", C28), (Str.ofString "InvalidStatement", C29), (Str.ofString "InvalidQuestion", C30), (Str.ofString "InvalidClaim", C31), (Str.ofString "InvalidTimes", C32), (Str.ofString "InvalidWeights", C33), (Str.ofString "DuplicateName", C34), (Str.ofString "TooMany", C35), (Str.ofString "TooFew", C36), (Str.ofString "CannotStand", C37), (Str.ofString "Standing", C38), (Str.ofString "Clash", C39), (Str.ofString "NotFitting", C40), (Str.ofString "NotShown", C41), (Str.ofString "NotABlock", C42), (Str.ofString "OtherFinds", C43), (Str.ofString "Same", C44), (Str.ofString "NoTable", C45), (Str.ofString "Taken", C46), (Str.ofString "InUse", C47), (Str.ofString "NoFinds", C48), (Str.ofString "UnknownName", C49), (Str.ofString "UnknownFind", C50), (Str.ofString "UnknownNode", C51), (Str.ofString "UnknownKept", C52), (Str.ofString "NothingLeft", C53)] : List (Str × Addr)).all fun p => PySem.W.kitOne K (.ref p.2) (.type "IndexError") == some (lastB p.1)) = true)
    (ygKE : PySem.W.nsIn K mainGlobals "KeyError" = some none) (xgKE : (([(Str.ofString "InvalidName", C18), (Str.ofString "InvalidLot", C19), (Str.ofString "InvalidFind", C20), (Str.ofString "InvalidWord", C21), (Str.ofString "InvalidFact", C22), (Str.ofString "InvalidOrder", C23), (Str.ofString "InvalidKind", C24), (Str.ofString "InvalidPair", C25), (Str.ofString "InvalidDeed", C26), (Str.ofString "InvalidText", C27), (Str.ofString "InvalidNumber", C28), (Str.ofString "InvalidStatement", C29), (Str.ofString "InvalidQuestion", C30), (Str.ofString "InvalidClaim", C31), (Str.ofString "InvalidTimes", C32), (Str.ofString "InvalidWeights", C33), (Str.ofString "DuplicateName", C34), (Str.ofString "TooMany", C35), (Str.ofString "TooFew", C36), (Str.ofString "CannotStand", C37), (Str.ofString "Standing", C38), (Str.ofString "Clash", C39), (Str.ofString "NotFitting", C40), (Str.ofString "NotShown", C41), (Str.ofString "NotABlock", C42), (Str.ofString "OtherFinds", C43), (Str.ofString "Same", C44), (Str.ofString "NoTable", C45), (Str.ofString "Taken", C46), (Str.ofString "InUse", C47), (Str.ofString "NoFinds", C48), (Str.ofString "UnknownName", C49), (Str.ofString "UnknownFind", C50), (Str.ofString "UnknownNode", C51), (Str.ofString "UnknownKept", C52), (Str.ofString "NothingLeft", C53)] : List (Str × Addr)).all fun p => PySem.W.kitOne K (.ref p.2) (.type "KeyError") == some ((fun _ => false) p.1)) = true)
    (xgRF : PySem.W.exmOne K (.ref C46) (.ref b1) = some true)
    (xgRM2 : PySem.W.exmOne K (.ref C50) (.ref b2) = some true) :
    ∃ fd : FuncData, (∀ (s : Shared) (v : Value), BindsTo s fd ⟨[v], []⟩ [("_law_script", v)]) ∧ ∀ base : Heap, K.In base → base.Ns mainGlobals mg → FnOk l.prog w K mg base CX0 15 fa fd ["_law_script"] (spLawK K) := by
  have e := hfa.symm.trans (PySem.W.mg_of X G a17)
  cases e
  have Z : Zs mg := ⟨PySem.W.mg_none_of X G z_len, PySem.W.mg_none_of X G z_range, PySem.W.mg_none_of X G z_int, PySem.W.mg_none_of X G z_abs, PySem.W.mg_none_of X G z_isinstance, PySem.W.mg_none_of X G z_all, PySem.W.mg_none_of X G z_any, PySem.W.mg_none_of X G z_sorted, PySem.W.mg_none_of X G z_set, PySem.W.mg_none_of X G z_list, PySem.W.mg_none_of X G z_tuple, PySem.W.mg_none_of X G z_str, PySem.W.mg_none_of X G z_bool, PySem.W.mg_none_of X G z_enumerate, PySem.W.mg_none_of X G z_min, PySem.W.mg_none_of X G z_max⟩
  have A_p_copied : At K mg "copied" s_p_copied ["value"] := at_mk X G a0 l0 c0 k0 fun _ _ _ _ _ _ us hl => match us, hl with | [_], _ => rfl
  have A_l_start : At K mg "_law_start" s_l_start ["_law_script", "_law_own"] := at_mk X G a1 l1 c1 k1 fun _ _ _ _ _ _ us hl => match us, hl with | [_, _], _ => rfl
  have A_l_draw : At K mg "_law_draw" s_l_draw ["_law_state", "_law_many"] := at_mk X G a2 l2 c2 k2 fun _ _ _ _ _ _ us hl => match us, hl with | [_, _], _ => rfl
  have A_l_pick : At K mg "_law_pick" s_l_pick ["_law_state", "_law_pool"] := at_mk X G a3 l3 c3 k3 fun _ _ _ _ _ _ us hl => match us, hl with | [_, _], _ => rfl
  have A_l_letters : At K mg "_law_letters" s_l_letters [] := at_mk X G a4 l4 c4 k4 fun _ _ _ _ _ _ us hl => match us, hl with | [], _ => rfl
  have A_l_word : At K mg "_law_word" s_l_word ["_law_state", "_law_longest"] := at_mk X G a5 l5 c5 k5 fun _ _ _ _ _ _ us hl => match us, hl with | [_, _], _ => rfl
  have A_l_odd : At K mg "_law_odd" s_l_odd ["_law_state"] := at_mk X G a6 l6 c6 k6 fun _ _ _ _ _ _ us hl => match us, hl with | [_], _ => rfl
  have A_l_same : At K mg "_law_same" s_l_same ["_law_got", "_law_due_here"] := at_mk X G a7 l7 c7 k7 fun _ _ _ _ _ _ us hl => match us, hl with | [_, _], _ => rfl
  have A_l_codes : At K mg "_law_codes" s_l_codes [] := at_mk X G a8 l8 c8 k8 fun _ _ _ _ _ _ us hl => match us, hl with | [], _ => rfl
  have A_l_by_place : At K mg "_law_by_place" s_l_by_place ["_law_x", "_law_y", "_law_z"] := at_mk X G a9 l9 c9 k9 fun _ _ _ _ _ _ us hl => match us, hl with | [_, _, _], _ => rfl
  have A_l_by_name : At K mg "_law_by_name" s_l_by_name ["_law_x", "_law_y", "_law_z"] := at_mk X G a10 l10 c10 k10 fun _ _ _ _ _ _ us hl => match us, hl with | [_, _, _], _ => rfl
  have A_l_due : At K mg "_law_due" s_l_due ["_law_code", "_law_x", "_law_y", "_law_z"] := at_mk X G a11 l11 c11 k11 fun _ _ _ _ _ _ us hl => match us, hl with | [_, _, _, _], _ => rfl
  have A_l_told : At K mg "_law_told" s_l_told ["_law_e", "_law_code"] := at_mk X G a12 l12 c12 k12 fun _ _ _ _ _ _ us hl => match us, hl with | [_, _], _ => rfl
  have A_l_kinds : At K mg "_law_kinds" s_l_kinds ["_law_e"] := at_mk X G a13 l13 c13 k13 fun _ _ _ _ _ _ us hl => match us, hl with | [_], _ => rfl
  have A_l_bases : At K mg "_law_bases" s_l_bases ["_law_e"] := at_mk X G a14 l14 c14 k14 fun _ _ _ _ _ _ us hl => match us, hl with | [_], _ => rfl
  have A_l_all_so : At K mg "_law_all_so" s_l_all_so ["_law_made", "_law_x", "_law_y", "_law_z"] := at_mk X G a15 l15 c15 k15 fun _ _ _ _ _ _ us hl => match us, hl with | [_, _, _, _], _ => rfl
  have A_l_raised : At K mg "_law_raised" s_l_raised ["_law_x"] := at_mk X G a16 l16 c16 k16 fun _ _ _ _ _ _ us hl => match us, hl with | [_], _ => rfl
  have A_p_law : At K mg "law" s_p_law ["_law_script"] := at_mk X G a17 l17 c17 k17 fun _ _ _ _ _ _ us hl => match us, hl with | [_], _ => rfl
  have hm1 : mg "FindError" = some (.ref b1) := PySem.W.mg_of X G ab1
  have hm2 : mg "Missing" = some (.ref b2) := PySem.W.mg_of X G ab2
  have F_c_InvalidName_init := fun_mk (x := "__init__") (qual := "InvalidName.__init__") (st := s_c_InvalidName_init) l18 c18 k18
  have E_c_InvalidName_init : ErrC0 K mg "InvalidName" "InvalidName.__init__" s_c_InvalidName_init ["self", "value"] ["value", "code"] C18 f18 _ := ⟨PySem.W.mg_of X G a18, ⟨⟨_, _, _, _, PySem.F.excBase_ValueError, PySem.F.store_ValueError, ei18, eo18⟩, sa18, ex18, ty18, kC18, hd18⟩, ⟨ga18, gg18, ex18, hd18⟩, (fun f hf => by
      simp only [List.mem_cons, List.not_mem_nil, or_false] at hf
      rcases hf with rfl | rfl
      · exact nf18_0
      · exact nf18_1), in18, ti18, F_c_InvalidName_init, F_c_InvalidName_init.binds (ps := ["self", "value"]) (fun _ _ _ _ _ _ us hl => match us, hl with | [_, _], _ => rfl)⟩
  have F_c_InvalidLot_init := fun_mk (x := "__init__") (qual := "InvalidLot.__init__") (st := s_c_InvalidLot_init) l19 c19 k19
  have E_c_InvalidLot_init : ErrC0 K mg "InvalidLot" "InvalidLot.__init__" s_c_InvalidLot_init ["self", "at"] ["at", "code"] C19 f19 _ := ⟨PySem.W.mg_of X G a19, ⟨⟨_, _, _, _, PySem.F.excBase_ValueError, PySem.F.store_ValueError, ei19, eo19⟩, sa19, ex19, ty19, kC19, hd19⟩, ⟨ga19, gg19, ex19, hd19⟩, (fun f hf => by
      simp only [List.mem_cons, List.not_mem_nil, or_false] at hf
      rcases hf with rfl | rfl
      · exact nf19_0
      · exact nf19_1), in19, ti19, F_c_InvalidLot_init, F_c_InvalidLot_init.binds (ps := ["self", "at"]) (fun _ _ _ _ _ _ us hl => match us, hl with | [_, _], _ => rfl)⟩
  have F_c_InvalidFind_init := fun_mk (x := "__init__") (qual := "InvalidFind.__init__") (st := s_c_InvalidFind_init) l20 c20 k20
  have E_c_InvalidFind_init : ErrC0 K mg "InvalidFind" "InvalidFind.__init__" s_c_InvalidFind_init ["self", "at"] ["at", "code"] C20 f20 _ := ⟨PySem.W.mg_of X G a20, ⟨⟨_, _, _, _, PySem.F.excBase_ValueError, PySem.F.store_ValueError, ei20, eo20⟩, sa20, ex20, ty20, kC20, hd20⟩, ⟨ga20, gg20, ex20, hd20⟩, (fun f hf => by
      simp only [List.mem_cons, List.not_mem_nil, or_false] at hf
      rcases hf with rfl | rfl
      · exact nf20_0
      · exact nf20_1), in20, ti20, F_c_InvalidFind_init, F_c_InvalidFind_init.binds (ps := ["self", "at"]) (fun _ _ _ _ _ _ us hl => match us, hl with | [_, _], _ => rfl)⟩
  have F_c_InvalidWord_init := fun_mk (x := "__init__") (qual := "InvalidWord.__init__") (st := s_c_InvalidWord_init) l21 c21 k21
  have E_c_InvalidWord_init : ErrC0 K mg "InvalidWord" "InvalidWord.__init__" s_c_InvalidWord_init ["self", "at"] ["at", "code"] C21 f21 _ := ⟨PySem.W.mg_of X G a21, ⟨⟨_, _, _, _, PySem.F.excBase_ValueError, PySem.F.store_ValueError, ei21, eo21⟩, sa21, ex21, ty21, kC21, hd21⟩, ⟨ga21, gg21, ex21, hd21⟩, (fun f hf => by
      simp only [List.mem_cons, List.not_mem_nil, or_false] at hf
      rcases hf with rfl | rfl
      · exact nf21_0
      · exact nf21_1), in21, ti21, F_c_InvalidWord_init, F_c_InvalidWord_init.binds (ps := ["self", "at"]) (fun _ _ _ _ _ _ us hl => match us, hl with | [_, _], _ => rfl)⟩
  have F_c_InvalidFact_init := fun_mk (x := "__init__") (qual := "InvalidFact.__init__") (st := s_c_InvalidFact_init) l22 c22 k22
  have E_c_InvalidFact_init : ErrC0 K mg "InvalidFact" "InvalidFact.__init__" s_c_InvalidFact_init ["self", "at"] ["at", "code"] C22 f22 _ := ⟨PySem.W.mg_of X G a22, ⟨⟨_, _, _, _, PySem.F.excBase_ValueError, PySem.F.store_ValueError, ei22, eo22⟩, sa22, ex22, ty22, kC22, hd22⟩, ⟨ga22, gg22, ex22, hd22⟩, (fun f hf => by
      simp only [List.mem_cons, List.not_mem_nil, or_false] at hf
      rcases hf with rfl | rfl
      · exact nf22_0
      · exact nf22_1), in22, ti22, F_c_InvalidFact_init, F_c_InvalidFact_init.binds (ps := ["self", "at"]) (fun _ _ _ _ _ _ us hl => match us, hl with | [_, _], _ => rfl)⟩
  have F_c_InvalidOrder_init := fun_mk (x := "__init__") (qual := "InvalidOrder.__init__") (st := s_c_InvalidOrder_init) l23 c23 k23
  have E_c_InvalidOrder_init : ErrC0 K mg "InvalidOrder" "InvalidOrder.__init__" s_c_InvalidOrder_init ["self", "at"] ["at", "code"] C23 f23 _ := ⟨PySem.W.mg_of X G a23, ⟨⟨_, _, _, _, PySem.F.excBase_ValueError, PySem.F.store_ValueError, ei23, eo23⟩, sa23, ex23, ty23, kC23, hd23⟩, ⟨ga23, gg23, ex23, hd23⟩, (fun f hf => by
      simp only [List.mem_cons, List.not_mem_nil, or_false] at hf
      rcases hf with rfl | rfl
      · exact nf23_0
      · exact nf23_1), in23, ti23, F_c_InvalidOrder_init, F_c_InvalidOrder_init.binds (ps := ["self", "at"]) (fun _ _ _ _ _ _ us hl => match us, hl with | [_, _], _ => rfl)⟩
  have F_c_InvalidKind_init := fun_mk (x := "__init__") (qual := "InvalidKind.__init__") (st := s_c_InvalidKind_init) l24 c24 k24
  have E_c_InvalidKind_init : ErrC0 K mg "InvalidKind" "InvalidKind.__init__" s_c_InvalidKind_init ["self", "at"] ["at", "code"] C24 f24 _ := ⟨PySem.W.mg_of X G a24, ⟨⟨_, _, _, _, PySem.F.excBase_ValueError, PySem.F.store_ValueError, ei24, eo24⟩, sa24, ex24, ty24, kC24, hd24⟩, ⟨ga24, gg24, ex24, hd24⟩, (fun f hf => by
      simp only [List.mem_cons, List.not_mem_nil, or_false] at hf
      rcases hf with rfl | rfl
      · exact nf24_0
      · exact nf24_1), in24, ti24, F_c_InvalidKind_init, F_c_InvalidKind_init.binds (ps := ["self", "at"]) (fun _ _ _ _ _ _ us hl => match us, hl with | [_, _], _ => rfl)⟩
  have F_c_InvalidPair_init := fun_mk (x := "__init__") (qual := "InvalidPair.__init__") (st := s_c_InvalidPair_init) l25 c25 k25
  have E_c_InvalidPair_init : ErrC0 K mg "InvalidPair" "InvalidPair.__init__" s_c_InvalidPair_init ["self", "at"] ["at", "code"] C25 f25 _ := ⟨PySem.W.mg_of X G a25, ⟨⟨_, _, _, _, PySem.F.excBase_ValueError, PySem.F.store_ValueError, ei25, eo25⟩, sa25, ex25, ty25, kC25, hd25⟩, ⟨ga25, gg25, ex25, hd25⟩, (fun f hf => by
      simp only [List.mem_cons, List.not_mem_nil, or_false] at hf
      rcases hf with rfl | rfl
      · exact nf25_0
      · exact nf25_1), in25, ti25, F_c_InvalidPair_init, F_c_InvalidPair_init.binds (ps := ["self", "at"]) (fun _ _ _ _ _ _ us hl => match us, hl with | [_, _], _ => rfl)⟩
  have F_c_InvalidDeed_init := fun_mk (x := "__init__") (qual := "InvalidDeed.__init__") (st := s_c_InvalidDeed_init) l26 c26 k26
  have E_c_InvalidDeed_init : ErrC0 K mg "InvalidDeed" "InvalidDeed.__init__" s_c_InvalidDeed_init ["self", "at"] ["at", "code"] C26 f26 _ := ⟨PySem.W.mg_of X G a26, ⟨⟨_, _, _, _, PySem.F.excBase_ValueError, PySem.F.store_ValueError, ei26, eo26⟩, sa26, ex26, ty26, kC26, hd26⟩, ⟨ga26, gg26, ex26, hd26⟩, (fun f hf => by
      simp only [List.mem_cons, List.not_mem_nil, or_false] at hf
      rcases hf with rfl | rfl
      · exact nf26_0
      · exact nf26_1), in26, ti26, F_c_InvalidDeed_init, F_c_InvalidDeed_init.binds (ps := ["self", "at"]) (fun _ _ _ _ _ _ us hl => match us, hl with | [_, _], _ => rfl)⟩
  have F_c_InvalidText_init := fun_mk (x := "__init__") (qual := "InvalidText.__init__") (st := s_c_InvalidText_init) l27 c27 k27
  have E_c_InvalidText_init : ErrC0 K mg "InvalidText" "InvalidText.__init__" s_c_InvalidText_init ["self", "line", "why"] ["line", "why", "code"] C27 f27 _ := ⟨PySem.W.mg_of X G a27, ⟨⟨_, _, _, _, PySem.F.excBase_ValueError, PySem.F.store_ValueError, ei27, eo27⟩, sa27, ex27, ty27, kC27, hd27⟩, ⟨ga27, gg27, ex27, hd27⟩, (fun f hf => by
      simp only [List.mem_cons, List.not_mem_nil, or_false] at hf
      rcases hf with rfl | rfl | rfl
      · exact nf27_0
      · exact nf27_1
      · exact nf27_2), in27, ti27, F_c_InvalidText_init, F_c_InvalidText_init.binds (ps := ["self", "line", "why"]) (fun _ _ _ _ _ _ us hl => match us, hl with | [_, _, _], _ => rfl)⟩
  have F_c_InvalidNumber_init := fun_mk (x := "__init__") (qual := "InvalidNumber.__init__") (st := s_c_InvalidNumber_init) l28 c28 k28
  have E_c_InvalidNumber_init : ErrC0 K mg "InvalidNumber" "InvalidNumber.__init__" s_c_InvalidNumber_init ["self", "value"] ["value", "code"] C28 f28 _ := ⟨PySem.W.mg_of X G a28, ⟨⟨_, _, _, _, PySem.F.excBase_ValueError, PySem.F.store_ValueError, ei28, eo28⟩, sa28, ex28, ty28, kC28, hd28⟩, ⟨ga28, gg28, ex28, hd28⟩, (fun f hf => by
      simp only [List.mem_cons, List.not_mem_nil, or_false] at hf
      rcases hf with rfl | rfl
      · exact nf28_0
      · exact nf28_1), in28, ti28, F_c_InvalidNumber_init, F_c_InvalidNumber_init.binds (ps := ["self", "value"]) (fun _ _ _ _ _ _ us hl => match us, hl with | [_, _], _ => rfl)⟩
  have F_c_InvalidStatement_init := fun_mk (x := "__init__") (qual := "InvalidStatement.__init__") (st := s_c_InvalidStatement_init) l29 c29 k29
  have E_c_InvalidStatement_init : ErrC0 K mg "InvalidStatement" "InvalidStatement.__init__" s_c_InvalidStatement_init ["self"] ["code"] C29 f29 _ := ⟨PySem.W.mg_of X G a29, ⟨⟨_, _, _, _, PySem.F.excBase_ValueError, PySem.F.store_ValueError, ei29, eo29⟩, sa29, ex29, ty29, kC29, hd29⟩, ⟨ga29, gg29, ex29, hd29⟩, (fun f hf => by
      simp only [List.mem_cons, List.not_mem_nil, or_false] at hf
      rcases hf with rfl
      · exact nf29_0), in29, ti29, F_c_InvalidStatement_init, F_c_InvalidStatement_init.binds (ps := ["self"]) (fun _ _ _ _ _ _ us hl => match us, hl with | [_], _ => rfl)⟩
  have F_c_InvalidQuestion_init := fun_mk (x := "__init__") (qual := "InvalidQuestion.__init__") (st := s_c_InvalidQuestion_init) l30 c30 k30
  have E_c_InvalidQuestion_init : ErrC0 K mg "InvalidQuestion" "InvalidQuestion.__init__" s_c_InvalidQuestion_init ["self"] ["code"] C30 f30 _ := ⟨PySem.W.mg_of X G a30, ⟨⟨_, _, _, _, PySem.F.excBase_ValueError, PySem.F.store_ValueError, ei30, eo30⟩, sa30, ex30, ty30, kC30, hd30⟩, ⟨ga30, gg30, ex30, hd30⟩, (fun f hf => by
      simp only [List.mem_cons, List.not_mem_nil, or_false] at hf
      rcases hf with rfl
      · exact nf30_0), in30, ti30, F_c_InvalidQuestion_init, F_c_InvalidQuestion_init.binds (ps := ["self"]) (fun _ _ _ _ _ _ us hl => match us, hl with | [_], _ => rfl)⟩
  have F_c_InvalidClaim_init := fun_mk (x := "__init__") (qual := "InvalidClaim.__init__") (st := s_c_InvalidClaim_init) l31 c31 k31
  have E_c_InvalidClaim_init : ErrC0 K mg "InvalidClaim" "InvalidClaim.__init__" s_c_InvalidClaim_init ["self"] ["code"] C31 f31 _ := ⟨PySem.W.mg_of X G a31, ⟨⟨_, _, _, _, PySem.F.excBase_ValueError, PySem.F.store_ValueError, ei31, eo31⟩, sa31, ex31, ty31, kC31, hd31⟩, ⟨ga31, gg31, ex31, hd31⟩, (fun f hf => by
      simp only [List.mem_cons, List.not_mem_nil, or_false] at hf
      rcases hf with rfl
      · exact nf31_0), in31, ti31, F_c_InvalidClaim_init, F_c_InvalidClaim_init.binds (ps := ["self"]) (fun _ _ _ _ _ _ us hl => match us, hl with | [_], _ => rfl)⟩
  have F_c_InvalidTimes_init := fun_mk (x := "__init__") (qual := "InvalidTimes.__init__") (st := s_c_InvalidTimes_init) l32 c32 k32
  have E_c_InvalidTimes_init : ErrC0 K mg "InvalidTimes" "InvalidTimes.__init__" s_c_InvalidTimes_init ["self", "name"] ["name", "code"] C32 f32 _ := ⟨PySem.W.mg_of X G a32, ⟨⟨_, _, _, _, PySem.F.excBase_ValueError, PySem.F.store_ValueError, ei32, eo32⟩, sa32, ex32, ty32, kC32, hd32⟩, ⟨ga32, gg32, ex32, hd32⟩, (fun f hf => by
      simp only [List.mem_cons, List.not_mem_nil, or_false] at hf
      rcases hf with rfl | rfl
      · exact nf32_0
      · exact nf32_1), in32, ti32, F_c_InvalidTimes_init, F_c_InvalidTimes_init.binds (ps := ["self", "name"]) (fun _ _ _ _ _ _ us hl => match us, hl with | [_, _], _ => rfl)⟩
  have F_c_InvalidWeights_init := fun_mk (x := "__init__") (qual := "InvalidWeights.__init__") (st := s_c_InvalidWeights_init) l33 c33 k33
  have E_c_InvalidWeights_init : ErrC0 K mg "InvalidWeights" "InvalidWeights.__init__" s_c_InvalidWeights_init ["self", "name"] ["name", "code"] C33 f33 _ := ⟨PySem.W.mg_of X G a33, ⟨⟨_, _, _, _, PySem.F.excBase_ValueError, PySem.F.store_ValueError, ei33, eo33⟩, sa33, ex33, ty33, kC33, hd33⟩, ⟨ga33, gg33, ex33, hd33⟩, (fun f hf => by
      simp only [List.mem_cons, List.not_mem_nil, or_false] at hf
      rcases hf with rfl | rfl
      · exact nf33_0
      · exact nf33_1), in33, ti33, F_c_InvalidWeights_init, F_c_InvalidWeights_init.binds (ps := ["self", "name"]) (fun _ _ _ _ _ _ us hl => match us, hl with | [_, _], _ => rfl)⟩
  have F_c_DuplicateName_init := fun_mk (x := "__init__") (qual := "DuplicateName.__init__") (st := s_c_DuplicateName_init) l34 c34 k34
  have E_c_DuplicateName_init : ErrC0 K mg "DuplicateName" "DuplicateName.__init__" s_c_DuplicateName_init ["self", "name"] ["name", "code"] C34 f34 _ := ⟨PySem.W.mg_of X G a34, ⟨⟨_, _, _, _, PySem.F.excBase_ValueError, PySem.F.store_ValueError, ei34, eo34⟩, sa34, ex34, ty34, kC34, hd34⟩, ⟨ga34, gg34, ex34, hd34⟩, (fun f hf => by
      simp only [List.mem_cons, List.not_mem_nil, or_false] at hf
      rcases hf with rfl | rfl
      · exact nf34_0
      · exact nf34_1), in34, ti34, F_c_DuplicateName_init, F_c_DuplicateName_init.binds (ps := ["self", "name"]) (fun _ _ _ _ _ _ us hl => match us, hl with | [_, _], _ => rfl)⟩
  have F_c_TooMany_init := fun_mk (x := "__init__") (qual := "TooMany.__init__") (st := s_c_TooMany_init) l35 c35 k35
  have E_c_TooMany_init : ErrC0 K mg "TooMany" "TooMany.__init__" s_c_TooMany_init ["self", "most"] ["most", "code"] C35 f35 _ := ⟨PySem.W.mg_of X G a35, ⟨⟨_, _, _, _, PySem.F.excBase_ValueError, PySem.F.store_ValueError, ei35, eo35⟩, sa35, ex35, ty35, kC35, hd35⟩, ⟨ga35, gg35, ex35, hd35⟩, (fun f hf => by
      simp only [List.mem_cons, List.not_mem_nil, or_false] at hf
      rcases hf with rfl | rfl
      · exact nf35_0
      · exact nf35_1), in35, ti35, F_c_TooMany_init, F_c_TooMany_init.binds (ps := ["self", "most"]) (fun _ _ _ _ _ _ us hl => match us, hl with | [_, _], _ => rfl)⟩
  have F_c_TooFew_init := fun_mk (x := "__init__") (qual := "TooFew.__init__") (st := s_c_TooFew_init) l36 c36 k36
  have E_c_TooFew_init : ErrC0 K mg "TooFew" "TooFew.__init__" s_c_TooFew_init ["self", "least"] ["least", "code"] C36 f36 _ := ⟨PySem.W.mg_of X G a36, ⟨⟨_, _, _, _, PySem.F.excBase_ValueError, PySem.F.store_ValueError, ei36, eo36⟩, sa36, ex36, ty36, kC36, hd36⟩, ⟨ga36, gg36, ex36, hd36⟩, (fun f hf => by
      simp only [List.mem_cons, List.not_mem_nil, or_false] at hf
      rcases hf with rfl | rfl
      · exact nf36_0
      · exact nf36_1), in36, ti36, F_c_TooFew_init, F_c_TooFew_init.binds (ps := ["self", "least"]) (fun _ _ _ _ _ _ us hl => match us, hl with | [_, _], _ => rfl)⟩
  have F_c_CannotStand_init := fun_mk (x := "__init__") (qual := "CannotStand.__init__") (st := s_c_CannotStand_init) l37 c37 k37
  have E_c_CannotStand_init : ErrC0 K mg "CannotStand" "CannotStand.__init__" s_c_CannotStand_init ["self", "one", "two", "three"] ["one", "two", "three", "code"] C37 f37 _ := ⟨PySem.W.mg_of X G a37, ⟨⟨_, _, _, _, PySem.F.excBase_ValueError, PySem.F.store_ValueError, ei37, eo37⟩, sa37, ex37, ty37, kC37, hd37⟩, ⟨ga37, gg37, ex37, hd37⟩, (fun f hf => by
      simp only [List.mem_cons, List.not_mem_nil, or_false] at hf
      rcases hf with rfl | rfl | rfl | rfl
      · exact nf37_0
      · exact nf37_1
      · exact nf37_2
      · exact nf37_3), in37, ti37, F_c_CannotStand_init, F_c_CannotStand_init.binds (ps := ["self", "one", "two", "three"]) (fun _ _ _ _ _ _ us hl => match us, hl with | [_, _, _, _], _ => rfl)⟩
  have F_c_Standing_init := fun_mk (x := "__init__") (qual := "Standing.__init__") (st := s_c_Standing_init) l38 c38 k38
  have E_c_Standing_init : ErrC0 K mg "Standing" "Standing.__init__" s_c_Standing_init ["self"] ["code"] C38 f38 _ := ⟨PySem.W.mg_of X G a38, ⟨⟨_, _, _, _, PySem.F.excBase_ValueError, PySem.F.store_ValueError, ei38, eo38⟩, sa38, ex38, ty38, kC38, hd38⟩, ⟨ga38, gg38, ex38, hd38⟩, (fun f hf => by
      simp only [List.mem_cons, List.not_mem_nil, or_false] at hf
      rcases hf with rfl
      · exact nf38_0), in38, ti38, F_c_Standing_init, F_c_Standing_init.binds (ps := ["self"]) (fun _ _ _ _ _ _ us hl => match us, hl with | [_], _ => rfl)⟩
  have F_c_Clash_init := fun_mk (x := "__init__") (qual := "Clash.__init__") (st := s_c_Clash_init) l39 c39 k39
  have E_c_Clash_init : ErrC0 K mg "Clash" "Clash.__init__" s_c_Clash_init ["self", "marks"] ["marks", "code"] C39 f39 _ := ⟨PySem.W.mg_of X G a39, ⟨⟨_, _, _, _, PySem.F.excBase_ValueError, PySem.F.store_ValueError, ei39, eo39⟩, sa39, ex39, ty39, kC39, hd39⟩, ⟨ga39, gg39, ex39, hd39⟩, (fun f hf => by
      simp only [List.mem_cons, List.not_mem_nil, or_false] at hf
      rcases hf with rfl | rfl
      · exact nf39_0
      · exact nf39_1), in39, ti39, F_c_Clash_init, F_c_Clash_init.binds (ps := ["self", "marks"]) (fun _ _ _ _ _ _ us hl => match us, hl with | [_, _], _ => rfl)⟩
  have F_c_NotFitting_init := fun_mk (x := "__init__") (qual := "NotFitting.__init__") (st := s_c_NotFitting_init) l40 c40 k40
  have E_c_NotFitting_init : ErrC0 K mg "NotFitting" "NotFitting.__init__" s_c_NotFitting_init ["self"] ["code"] C40 f40 _ := ⟨PySem.W.mg_of X G a40, ⟨⟨_, _, _, _, PySem.F.excBase_ValueError, PySem.F.store_ValueError, ei40, eo40⟩, sa40, ex40, ty40, kC40, hd40⟩, ⟨ga40, gg40, ex40, hd40⟩, (fun f hf => by
      simp only [List.mem_cons, List.not_mem_nil, or_false] at hf
      rcases hf with rfl
      · exact nf40_0), in40, ti40, F_c_NotFitting_init, F_c_NotFitting_init.binds (ps := ["self"]) (fun _ _ _ _ _ _ us hl => match us, hl with | [_], _ => rfl)⟩
  have F_c_NotShown_init := fun_mk (x := "__init__") (qual := "NotShown.__init__") (st := s_c_NotShown_init) l41 c41 k41
  have E_c_NotShown_init : ErrC0 K mg "NotShown" "NotShown.__init__" s_c_NotShown_init ["self"] ["code"] C41 f41 _ := ⟨PySem.W.mg_of X G a41, ⟨⟨_, _, _, _, PySem.F.excBase_ValueError, PySem.F.store_ValueError, ei41, eo41⟩, sa41, ex41, ty41, kC41, hd41⟩, ⟨ga41, gg41, ex41, hd41⟩, (fun f hf => by
      simp only [List.mem_cons, List.not_mem_nil, or_false] at hf
      rcases hf with rfl
      · exact nf41_0), in41, ti41, F_c_NotShown_init, F_c_NotShown_init.binds (ps := ["self"]) (fun _ _ _ _ _ _ us hl => match us, hl with | [_], _ => rfl)⟩
  have F_c_NotABlock_init := fun_mk (x := "__init__") (qual := "NotABlock.__init__") (st := s_c_NotABlock_init) l42 c42 k42
  have E_c_NotABlock_init : ErrC0 K mg "NotABlock" "NotABlock.__init__" s_c_NotABlock_init ["self", "lot"] ["lot", "code"] C42 f42 _ := ⟨PySem.W.mg_of X G a42, ⟨⟨_, _, _, _, PySem.F.excBase_ValueError, PySem.F.store_ValueError, ei42, eo42⟩, sa42, ex42, ty42, kC42, hd42⟩, ⟨ga42, gg42, ex42, hd42⟩, (fun f hf => by
      simp only [List.mem_cons, List.not_mem_nil, or_false] at hf
      rcases hf with rfl | rfl
      · exact nf42_0
      · exact nf42_1), in42, ti42, F_c_NotABlock_init, F_c_NotABlock_init.binds (ps := ["self", "lot"]) (fun _ _ _ _ _ _ us hl => match us, hl with | [_, _], _ => rfl)⟩
  have F_c_OtherFinds_init := fun_mk (x := "__init__") (qual := "OtherFinds.__init__") (st := s_c_OtherFinds_init) l43 c43 k43
  have E_c_OtherFinds_init : ErrC0 K mg "OtherFinds" "OtherFinds.__init__" s_c_OtherFinds_init ["self"] ["code"] C43 f43 _ := ⟨PySem.W.mg_of X G a43, ⟨⟨_, _, _, _, PySem.F.excBase_ValueError, PySem.F.store_ValueError, ei43, eo43⟩, sa43, ex43, ty43, kC43, hd43⟩, ⟨ga43, gg43, ex43, hd43⟩, (fun f hf => by
      simp only [List.mem_cons, List.not_mem_nil, or_false] at hf
      rcases hf with rfl
      · exact nf43_0), in43, ti43, F_c_OtherFinds_init, F_c_OtherFinds_init.binds (ps := ["self"]) (fun _ _ _ _ _ _ us hl => match us, hl with | [_], _ => rfl)⟩
  have F_c_Same_init := fun_mk (x := "__init__") (qual := "Same.__init__") (st := s_c_Same_init) l44 c44 k44
  have E_c_Same_init : ErrC0 K mg "Same" "Same.__init__" s_c_Same_init ["self", "name"] ["name", "code"] C44 f44 _ := ⟨PySem.W.mg_of X G a44, ⟨⟨_, _, _, _, PySem.F.excBase_ValueError, PySem.F.store_ValueError, ei44, eo44⟩, sa44, ex44, ty44, kC44, hd44⟩, ⟨ga44, gg44, ex44, hd44⟩, (fun f hf => by
      simp only [List.mem_cons, List.not_mem_nil, or_false] at hf
      rcases hf with rfl | rfl
      · exact nf44_0
      · exact nf44_1), in44, ti44, F_c_Same_init, F_c_Same_init.binds (ps := ["self", "name"]) (fun _ _ _ _ _ _ us hl => match us, hl with | [_, _], _ => rfl)⟩
  have F_c_NoTable_init := fun_mk (x := "__init__") (qual := "NoTable.__init__") (st := s_c_NoTable_init) l45 c45 k45
  have E_c_NoTable_init : ErrC0 K mg "NoTable" "NoTable.__init__" s_c_NoTable_init ["self", "why", "found"] ["why", "found", "code"] C45 f45 _ := ⟨PySem.W.mg_of X G a45, ⟨⟨_, _, _, _, PySem.F.excBase_ValueError, PySem.F.store_ValueError, ei45, eo45⟩, sa45, ex45, ty45, kC45, hd45⟩, ⟨ga45, gg45, ex45, hd45⟩, (fun f hf => by
      simp only [List.mem_cons, List.not_mem_nil, or_false] at hf
      rcases hf with rfl | rfl | rfl
      · exact nf45_0
      · exact nf45_1
      · exact nf45_2), in45, ti45, F_c_NoTable_init, F_c_NoTable_init.binds (ps := ["self", "why", "found"]) (fun _ _ _ _ _ _ us hl => match us, hl with | [_, _, _], _ => rfl)⟩
  have F_c_Taken_init := fun_mk (x := "__init__") (qual := "Taken.__init__") (st := s_c_Taken_init) l46 c46 k46
  have E_c_Taken_init : ErrC0 K mg "Taken" "Taken.__init__" s_c_Taken_init ["self", "name"] ["name", "code"] C46 f46 _ := ⟨PySem.W.mg_of X G a46, ⟨⟨_, _, _, _, PySem.F.excBase_ValueError, PySem.F.store_ValueError, ei46, eo46⟩, sa46, ex46, ty46, kC46, hd46⟩, ⟨ga46, gg46, ex46, hd46⟩, (fun f hf => by
      simp only [List.mem_cons, List.not_mem_nil, or_false] at hf
      rcases hf with rfl | rfl
      · exact nf46_0
      · exact nf46_1), in46, ti46, F_c_Taken_init, F_c_Taken_init.binds (ps := ["self", "name"]) (fun _ _ _ _ _ _ us hl => match us, hl with | [_, _], _ => rfl)⟩
  have F_c_InUse_init := fun_mk (x := "__init__") (qual := "InUse.__init__") (st := s_c_InUse_init) l47 c47 k47
  have E_c_InUse_init : ErrC0 K mg "InUse" "InUse.__init__" s_c_InUse_init ["self", "mark"] ["mark", "code"] C47 f47 _ := ⟨PySem.W.mg_of X G a47, ⟨⟨_, _, _, _, PySem.F.excBase_ValueError, PySem.F.store_ValueError, ei47, eo47⟩, sa47, ex47, ty47, kC47, hd47⟩, ⟨ga47, gg47, ex47, hd47⟩, (fun f hf => by
      simp only [List.mem_cons, List.not_mem_nil, or_false] at hf
      rcases hf with rfl | rfl
      · exact nf47_0
      · exact nf47_1), in47, ti47, F_c_InUse_init, F_c_InUse_init.binds (ps := ["self", "mark"]) (fun _ _ _ _ _ _ us hl => match us, hl with | [_, _], _ => rfl)⟩
  have F_c_NoFinds_init := fun_mk (x := "__init__") (qual := "NoFinds.__init__") (st := s_c_NoFinds_init) l48 c48 k48
  have E_c_NoFinds_init : ErrC0 K mg "NoFinds" "NoFinds.__init__" s_c_NoFinds_init ["self"] ["code"] C48 f48 _ := ⟨PySem.W.mg_of X G a48, ⟨⟨_, _, _, _, PySem.F.excBase_ValueError, PySem.F.store_ValueError, ei48, eo48⟩, sa48, ex48, ty48, kC48, hd48⟩, ⟨ga48, gg48, ex48, hd48⟩, (fun f hf => by
      simp only [List.mem_cons, List.not_mem_nil, or_false] at hf
      rcases hf with rfl
      · exact nf48_0), in48, ti48, F_c_NoFinds_init, F_c_NoFinds_init.binds (ps := ["self"]) (fun _ _ _ _ _ _ us hl => match us, hl with | [_], _ => rfl)⟩
  have F_c_UnknownName_init := fun_mk (x := "__init__") (qual := "UnknownName.__init__") (st := s_c_UnknownName_init) l49 c49 k49
  have E_c_UnknownName_init : ErrC0 K mg "UnknownName" "UnknownName.__init__" s_c_UnknownName_init ["self", "name"] ["name", "code"] C49 f49 _ := ⟨PySem.W.mg_of X G a49, ⟨⟨_, _, _, _, PySem.F.excBase_LookupError, PySem.F.store_LookupError, ei49, eo49⟩, sa49, ex49, ty49, kC49, hd49⟩, ⟨ga49, gg49, ex49, hd49⟩, (fun f hf => by
      simp only [List.mem_cons, List.not_mem_nil, or_false] at hf
      rcases hf with rfl | rfl
      · exact nf49_0
      · exact nf49_1), in49, ti49, F_c_UnknownName_init, F_c_UnknownName_init.binds (ps := ["self", "name"]) (fun _ _ _ _ _ _ us hl => match us, hl with | [_, _], _ => rfl)⟩
  have F_c_UnknownFind_init := fun_mk (x := "__init__") (qual := "UnknownFind.__init__") (st := s_c_UnknownFind_init) l50 c50 k50
  have E_c_UnknownFind_init : ErrC0 K mg "UnknownFind" "UnknownFind.__init__" s_c_UnknownFind_init ["self", "name"] ["name", "code"] C50 f50 _ := ⟨PySem.W.mg_of X G a50, ⟨⟨_, _, _, _, PySem.F.excBase_LookupError, PySem.F.store_LookupError, ei50, eo50⟩, sa50, ex50, ty50, kC50, hd50⟩, ⟨ga50, gg50, ex50, hd50⟩, (fun f hf => by
      simp only [List.mem_cons, List.not_mem_nil, or_false] at hf
      rcases hf with rfl | rfl
      · exact nf50_0
      · exact nf50_1), in50, ti50, F_c_UnknownFind_init, F_c_UnknownFind_init.binds (ps := ["self", "name"]) (fun _ _ _ _ _ _ us hl => match us, hl with | [_, _], _ => rfl)⟩
  have F_c_UnknownNode_init := fun_mk (x := "__init__") (qual := "UnknownNode.__init__") (st := s_c_UnknownNode_init) l51 c51 k51
  have E_c_UnknownNode_init : ErrC0 K mg "UnknownNode" "UnknownNode.__init__" s_c_UnknownNode_init ["self", "lot"] ["lot", "code"] C51 f51 _ := ⟨PySem.W.mg_of X G a51, ⟨⟨_, _, _, _, PySem.F.excBase_LookupError, PySem.F.store_LookupError, ei51, eo51⟩, sa51, ex51, ty51, kC51, hd51⟩, ⟨ga51, gg51, ex51, hd51⟩, (fun f hf => by
      simp only [List.mem_cons, List.not_mem_nil, or_false] at hf
      rcases hf with rfl | rfl
      · exact nf51_0
      · exact nf51_1), in51, ti51, F_c_UnknownNode_init, F_c_UnknownNode_init.binds (ps := ["self", "lot"]) (fun _ _ _ _ _ _ us hl => match us, hl with | [_, _], _ => rfl)⟩
  have F_c_UnknownKept_init := fun_mk (x := "__init__") (qual := "UnknownKept.__init__") (st := s_c_UnknownKept_init) l52 c52 k52
  have E_c_UnknownKept_init : ErrC0 K mg "UnknownKept" "UnknownKept.__init__" s_c_UnknownKept_init ["self", "at"] ["at", "code"] C52 f52 _ := ⟨PySem.W.mg_of X G a52, ⟨⟨_, _, _, _, PySem.F.excBase_LookupError, PySem.F.store_LookupError, ei52, eo52⟩, sa52, ex52, ty52, kC52, hd52⟩, ⟨ga52, gg52, ex52, hd52⟩, (fun f hf => by
      simp only [List.mem_cons, List.not_mem_nil, or_false] at hf
      rcases hf with rfl | rfl
      · exact nf52_0
      · exact nf52_1), in52, ti52, F_c_UnknownKept_init, F_c_UnknownKept_init.binds (ps := ["self", "at"]) (fun _ _ _ _ _ _ us hl => match us, hl with | [_, _], _ => rfl)⟩
  have F_c_NothingLeft_init := fun_mk (x := "__init__") (qual := "NothingLeft.__init__") (st := s_c_NothingLeft_init) l53 c53 k53
  have E_c_NothingLeft_init : ErrC0 K mg "NothingLeft" "NothingLeft.__init__" s_c_NothingLeft_init ["self"] ["code"] C53 f53 _ := ⟨PySem.W.mg_of X G a53, ⟨⟨_, _, _, _, PySem.F.excBase_IndexError, PySem.F.store_IndexError, ei53, eo53⟩, sa53, ex53, ty53, kC53, hd53⟩, ⟨ga53, gg53, ex53, hd53⟩, (fun f hf => by
      simp only [List.mem_cons, List.not_mem_nil, or_false] at hf
      rcases hf with rfl
      · exact nf53_0), in53, ti53, F_c_NothingLeft_init, F_c_NothingLeft_init.binds (ps := ["self"]) (fun _ _ _ _ _ _ us hl => match us, hl with | [_], _ => rfl)⟩
  have hcsm : ∀ p ∈ ([(Str.ofString "InvalidName", C18), (Str.ofString "InvalidLot", C19), (Str.ofString "InvalidFind", C20), (Str.ofString "InvalidWord", C21), (Str.ofString "InvalidFact", C22), (Str.ofString "InvalidOrder", C23), (Str.ofString "InvalidKind", C24), (Str.ofString "InvalidPair", C25), (Str.ofString "InvalidDeed", C26), (Str.ofString "InvalidText", C27), (Str.ofString "InvalidNumber", C28), (Str.ofString "InvalidStatement", C29), (Str.ofString "InvalidQuestion", C30), (Str.ofString "InvalidClaim", C31), (Str.ofString "InvalidTimes", C32), (Str.ofString "InvalidWeights", C33), (Str.ofString "DuplicateName", C34), (Str.ofString "TooMany", C35), (Str.ofString "TooFew", C36), (Str.ofString "CannotStand", C37), (Str.ofString "Standing", C38), (Str.ofString "Clash", C39), (Str.ofString "NotFitting", C40), (Str.ofString "NotShown", C41), (Str.ofString "NotABlock", C42), (Str.ofString "OtherFinds", C43), (Str.ofString "Same", C44), (Str.ofString "NoTable", C45), (Str.ofString "Taken", C46), (Str.ofString "InUse", C47), (Str.ofString "NoFinds", C48), (Str.ofString "UnknownName", C49), (Str.ofString "UnknownFind", C50), (Str.ofString "UnknownNode", C51), (Str.ofString "UnknownKept", C52), (Str.ofString "NothingLeft", C53)] : List (Str × Addr)), mg p.1 = some (.ref p.2) := List.forall_mem_cons.mpr ⟨E_c_InvalidName_init.m, List.forall_mem_cons.mpr ⟨E_c_InvalidLot_init.m, List.forall_mem_cons.mpr ⟨E_c_InvalidFind_init.m, List.forall_mem_cons.mpr ⟨E_c_InvalidWord_init.m, List.forall_mem_cons.mpr ⟨E_c_InvalidFact_init.m, List.forall_mem_cons.mpr ⟨E_c_InvalidOrder_init.m, List.forall_mem_cons.mpr ⟨E_c_InvalidKind_init.m, List.forall_mem_cons.mpr ⟨E_c_InvalidPair_init.m, List.forall_mem_cons.mpr ⟨E_c_InvalidDeed_init.m, List.forall_mem_cons.mpr ⟨E_c_InvalidText_init.m, List.forall_mem_cons.mpr ⟨E_c_InvalidNumber_init.m, List.forall_mem_cons.mpr ⟨E_c_InvalidStatement_init.m, List.forall_mem_cons.mpr ⟨E_c_InvalidQuestion_init.m, List.forall_mem_cons.mpr ⟨E_c_InvalidClaim_init.m, List.forall_mem_cons.mpr ⟨E_c_InvalidTimes_init.m, List.forall_mem_cons.mpr ⟨E_c_InvalidWeights_init.m, List.forall_mem_cons.mpr ⟨E_c_DuplicateName_init.m, List.forall_mem_cons.mpr ⟨E_c_TooMany_init.m, List.forall_mem_cons.mpr ⟨E_c_TooFew_init.m, List.forall_mem_cons.mpr ⟨E_c_CannotStand_init.m, List.forall_mem_cons.mpr ⟨E_c_Standing_init.m, List.forall_mem_cons.mpr ⟨E_c_Clash_init.m, List.forall_mem_cons.mpr ⟨E_c_NotFitting_init.m, List.forall_mem_cons.mpr ⟨E_c_NotShown_init.m, List.forall_mem_cons.mpr ⟨E_c_NotABlock_init.m, List.forall_mem_cons.mpr ⟨E_c_OtherFinds_init.m, List.forall_mem_cons.mpr ⟨E_c_Same_init.m, List.forall_mem_cons.mpr ⟨E_c_NoTable_init.m, List.forall_mem_cons.mpr ⟨E_c_Taken_init.m, List.forall_mem_cons.mpr ⟨E_c_InUse_init.m, List.forall_mem_cons.mpr ⟨E_c_NoFinds_init.m, List.forall_mem_cons.mpr ⟨E_c_UnknownName_init.m, List.forall_mem_cons.mpr ⟨E_c_UnknownFind_init.m, List.forall_mem_cons.mpr ⟨E_c_UnknownNode_init.m, List.forall_mem_cons.mpr ⟨E_c_UnknownKept_init.m, List.forall_mem_cons.mpr ⟨E_c_NothingLeft_init.m, List.forall_mem_nil _⟩⟩⟩⟩⟩⟩⟩⟩⟩⟩⟩⟩⟩⟩⟩⟩⟩⟩⟩⟩⟩⟩⟩⟩⟩⟩⟩⟩⟩⟩⟩⟩⟩⟩⟩⟩
  have gK := And.intro (kit_use hcsm (es := errN) rfl xKit) (fun (n : Str) (C : Addr) (hn : n ∈ errN) (h1 : mg n = some (.ref C)) => excB_ok (List.all_eq_true.mp xExc _ (cs_in hcsm (es := errN) rfl hn h1)))
  have gFE : ∃ c, mg "FindError" = some (.ref c) ∧ ∀ (n : Str) (C : Addr), n ∈ errN → mg n = some (.ref C) → PySem.W.kitOne K (.ref C) (.ref c) = some (findB n) := ⟨_, hm1, kit_to hcsm (es := errN) (f := findB) rfl xgFE⟩
  have gMI : ∃ c, mg "Missing" = some (.ref c) ∧ ∀ (n : Str) (C : Addr), n ∈ errN → mg n = some (.ref C) → PySem.W.kitOne K (.ref C) (.ref c) = some (missB n) := ⟨_, hm2, kit_to hcsm (es := errN) (f := missB) rfl xgMI⟩
  have gVE := And.intro (PySem.W.mg_none_of X G ygVE) (kit_to hcsm (es := errN) (f := findB) rfl xgVE)
  have gLE := And.intro (PySem.W.mg_none_of X G ygLE) (kit_to hcsm (es := errN) (f := (fun n => missB n || lastB n)) rfl xgLE)
  have gIE := And.intro (PySem.W.mg_none_of X G ygIE) (kit_to hcsm (es := errN) (f := lastB) rfl xgIE)
  have gKE := And.intro (PySem.W.mg_none_of X G ygKE) (kit_to hcsm (es := errN) (f := (fun _ => false)) rfl xgKE)
  have gRF : ∃ c, mg "FindError" = some (.ref c) ∧ ∀ C, mg "Taken" = some (.ref C) → PySem.W.exmOne K (.ref C) (.ref c) = some true := ⟨_, hm1, fun C h => by cases h.symm.trans E_c_Taken_init.m; exact xgRF⟩
  have gRM2 : ∃ c, mg "Missing" = some (.ref c) ∧ ∀ C, mg "UnknownFind" = some (.ref C) → PySem.W.exmOne K (.ref C) (.ref c) = some true := ⟨_, hm2, fun C h => by cases h.symm.trans E_c_UnknownFind_init.m; exact xgRM2⟩
  refine ⟨PySem.W.fnOf "law" "law" (defArgs s_p_law) (defBody s_p_law) (defScope s_p_law) .none kV17 dc17 pm17 an17 cd17 ct17, fun s v => .of_eq rfl, fun base _ _ => ?_⟩
  have H_l_start := has_l_start (P := l.prog) (w := w) (base := base) Z A_l_start
  have H_l_draw := has_l_draw (P := l.prog) (w := w) (base := base) Z A_l_draw
  have H_l_pick := has_l_pick (P := l.prog) (w := w) (base := base) Z A_l_pick (H_l_draw)
  have H_l_odd := has_l_odd (P := l.prog) (w := w) (base := base) Z A_l_odd (H_l_pick)
  have H_l_letters := has_l_letters (P := l.prog) (w := w) (base := base) Z A_l_letters
  have H_l_word := has_l_word (P := l.prog) (w := w) (base := base) Z A_l_word (H_l_draw) (H_l_letters)
  have H_p_copied := has_p_copied (P := l.prog) (w := w) (base := base) Z A_p_copied
  have H_c_InvalidName_init : HasE0 l.prog w K mg base "InvalidName" "InvalidName.__init__" s_c_InvalidName_init ["self", "value"] ["value", "code"] 7 (spInitN K "InvalidName" ["value"] 6) := ⟨_, _, _, E_c_InvalidName_init, has_c_InvalidName_init (P := l.prog) (w := w) (base := base) Z F_c_InvalidName_init (H_p_copied)⟩
  have H_c_InvalidLot_init : HasE0 l.prog w K mg base "InvalidLot" "InvalidLot.__init__" s_c_InvalidLot_init ["self", "at"] ["at", "code"] 7 (spInitN K "InvalidLot" ["at"] 6) := ⟨_, _, _, E_c_InvalidLot_init, has_c_InvalidLot_init (P := l.prog) (w := w) (base := base) Z F_c_InvalidLot_init (H_p_copied)⟩
  have H_c_InvalidFind_init : HasE0 l.prog w K mg base "InvalidFind" "InvalidFind.__init__" s_c_InvalidFind_init ["self", "at"] ["at", "code"] 7 (spInitN K "InvalidFind" ["at"] 6) := ⟨_, _, _, E_c_InvalidFind_init, has_c_InvalidFind_init (P := l.prog) (w := w) (base := base) Z F_c_InvalidFind_init (H_p_copied)⟩
  have H_c_InvalidWord_init : HasE0 l.prog w K mg base "InvalidWord" "InvalidWord.__init__" s_c_InvalidWord_init ["self", "at"] ["at", "code"] 7 (spInitN K "InvalidWord" ["at"] 6) := ⟨_, _, _, E_c_InvalidWord_init, has_c_InvalidWord_init (P := l.prog) (w := w) (base := base) Z F_c_InvalidWord_init (H_p_copied)⟩
  have H_c_InvalidFact_init : HasE0 l.prog w K mg base "InvalidFact" "InvalidFact.__init__" s_c_InvalidFact_init ["self", "at"] ["at", "code"] 7 (spInitN K "InvalidFact" ["at"] 6) := ⟨_, _, _, E_c_InvalidFact_init, has_c_InvalidFact_init (P := l.prog) (w := w) (base := base) Z F_c_InvalidFact_init (H_p_copied)⟩
  have H_c_InvalidOrder_init : HasE0 l.prog w K mg base "InvalidOrder" "InvalidOrder.__init__" s_c_InvalidOrder_init ["self", "at"] ["at", "code"] 7 (spInitN K "InvalidOrder" ["at"] 6) := ⟨_, _, _, E_c_InvalidOrder_init, has_c_InvalidOrder_init (P := l.prog) (w := w) (base := base) Z F_c_InvalidOrder_init (H_p_copied)⟩
  have H_c_InvalidKind_init : HasE0 l.prog w K mg base "InvalidKind" "InvalidKind.__init__" s_c_InvalidKind_init ["self", "at"] ["at", "code"] 7 (spInitN K "InvalidKind" ["at"] 6) := ⟨_, _, _, E_c_InvalidKind_init, has_c_InvalidKind_init (P := l.prog) (w := w) (base := base) Z F_c_InvalidKind_init (H_p_copied)⟩
  have H_c_InvalidPair_init : HasE0 l.prog w K mg base "InvalidPair" "InvalidPair.__init__" s_c_InvalidPair_init ["self", "at"] ["at", "code"] 7 (spInitN K "InvalidPair" ["at"] 6) := ⟨_, _, _, E_c_InvalidPair_init, has_c_InvalidPair_init (P := l.prog) (w := w) (base := base) Z F_c_InvalidPair_init (H_p_copied)⟩
  have H_c_InvalidDeed_init : HasE0 l.prog w K mg base "InvalidDeed" "InvalidDeed.__init__" s_c_InvalidDeed_init ["self", "at"] ["at", "code"] 7 (spInitN K "InvalidDeed" ["at"] 6) := ⟨_, _, _, E_c_InvalidDeed_init, has_c_InvalidDeed_init (P := l.prog) (w := w) (base := base) Z F_c_InvalidDeed_init (H_p_copied)⟩
  have H_c_InvalidText_init : HasE0 l.prog w K mg base "InvalidText" "InvalidText.__init__" s_c_InvalidText_init ["self", "line", "why"] ["line", "why", "code"] 7 (spInitN K "InvalidText" ["line", "why"] 6) := ⟨_, _, _, E_c_InvalidText_init, has_c_InvalidText_init (P := l.prog) (w := w) (base := base) Z F_c_InvalidText_init (H_p_copied)⟩
  have H_c_InvalidNumber_init : HasE0 l.prog w K mg base "InvalidNumber" "InvalidNumber.__init__" s_c_InvalidNumber_init ["self", "value"] ["value", "code"] 7 (spInitN K "InvalidNumber" ["value"] 6) := ⟨_, _, _, E_c_InvalidNumber_init, has_c_InvalidNumber_init (P := l.prog) (w := w) (base := base) Z F_c_InvalidNumber_init (H_p_copied)⟩
  have H_c_InvalidStatement_init : HasE0 l.prog w K mg base "InvalidStatement" "InvalidStatement.__init__" s_c_InvalidStatement_init ["self"] ["code"] 7 (spInitN K "InvalidStatement" [] 6) := ⟨_, _, _, E_c_InvalidStatement_init, has_c_InvalidStatement_init (P := l.prog) (w := w) (base := base) Z F_c_InvalidStatement_init (H_p_copied)⟩
  have H_c_InvalidQuestion_init : HasE0 l.prog w K mg base "InvalidQuestion" "InvalidQuestion.__init__" s_c_InvalidQuestion_init ["self"] ["code"] 7 (spInitN K "InvalidQuestion" [] 6) := ⟨_, _, _, E_c_InvalidQuestion_init, has_c_InvalidQuestion_init (P := l.prog) (w := w) (base := base) Z F_c_InvalidQuestion_init (H_p_copied)⟩
  have H_c_InvalidClaim_init : HasE0 l.prog w K mg base "InvalidClaim" "InvalidClaim.__init__" s_c_InvalidClaim_init ["self"] ["code"] 7 (spInitN K "InvalidClaim" [] 6) := ⟨_, _, _, E_c_InvalidClaim_init, has_c_InvalidClaim_init (P := l.prog) (w := w) (base := base) Z F_c_InvalidClaim_init (H_p_copied)⟩
  have H_c_InvalidTimes_init : HasE0 l.prog w K mg base "InvalidTimes" "InvalidTimes.__init__" s_c_InvalidTimes_init ["self", "name"] ["name", "code"] 7 (spInitN K "InvalidTimes" ["name"] 6) := ⟨_, _, _, E_c_InvalidTimes_init, has_c_InvalidTimes_init (P := l.prog) (w := w) (base := base) Z F_c_InvalidTimes_init (H_p_copied)⟩
  have H_c_InvalidWeights_init : HasE0 l.prog w K mg base "InvalidWeights" "InvalidWeights.__init__" s_c_InvalidWeights_init ["self", "name"] ["name", "code"] 7 (spInitN K "InvalidWeights" ["name"] 6) := ⟨_, _, _, E_c_InvalidWeights_init, has_c_InvalidWeights_init (P := l.prog) (w := w) (base := base) Z F_c_InvalidWeights_init (H_p_copied)⟩
  have H_c_DuplicateName_init : HasE0 l.prog w K mg base "DuplicateName" "DuplicateName.__init__" s_c_DuplicateName_init ["self", "name"] ["name", "code"] 7 (spInitN K "DuplicateName" ["name"] 6) := ⟨_, _, _, E_c_DuplicateName_init, has_c_DuplicateName_init (P := l.prog) (w := w) (base := base) Z F_c_DuplicateName_init (H_p_copied)⟩
  have H_c_TooMany_init : HasE0 l.prog w K mg base "TooMany" "TooMany.__init__" s_c_TooMany_init ["self", "most"] ["most", "code"] 7 (spInitN K "TooMany" ["most"] 6) := ⟨_, _, _, E_c_TooMany_init, has_c_TooMany_init (P := l.prog) (w := w) (base := base) Z F_c_TooMany_init (H_p_copied)⟩
  have H_c_TooFew_init : HasE0 l.prog w K mg base "TooFew" "TooFew.__init__" s_c_TooFew_init ["self", "least"] ["least", "code"] 7 (spInitN K "TooFew" ["least"] 6) := ⟨_, _, _, E_c_TooFew_init, has_c_TooFew_init (P := l.prog) (w := w) (base := base) Z F_c_TooFew_init (H_p_copied)⟩
  have H_c_CannotStand_init : HasE0 l.prog w K mg base "CannotStand" "CannotStand.__init__" s_c_CannotStand_init ["self", "one", "two", "three"] ["one", "two", "three", "code"] 7 (spInitN K "CannotStand" ["one", "two", "three"] 6) := ⟨_, _, _, E_c_CannotStand_init, has_c_CannotStand_init (P := l.prog) (w := w) (base := base) Z F_c_CannotStand_init (H_p_copied)⟩
  have H_c_Standing_init : HasE0 l.prog w K mg base "Standing" "Standing.__init__" s_c_Standing_init ["self"] ["code"] 7 (spInitN K "Standing" [] 6) := ⟨_, _, _, E_c_Standing_init, has_c_Standing_init (P := l.prog) (w := w) (base := base) Z F_c_Standing_init (H_p_copied)⟩
  have H_c_Clash_init : HasE0 l.prog w K mg base "Clash" "Clash.__init__" s_c_Clash_init ["self", "marks"] ["marks", "code"] 7 (spInitN K "Clash" ["marks"] 6) := ⟨_, _, _, E_c_Clash_init, has_c_Clash_init (P := l.prog) (w := w) (base := base) Z F_c_Clash_init (H_p_copied)⟩
  have H_c_NotFitting_init : HasE0 l.prog w K mg base "NotFitting" "NotFitting.__init__" s_c_NotFitting_init ["self"] ["code"] 7 (spInitN K "NotFitting" [] 6) := ⟨_, _, _, E_c_NotFitting_init, has_c_NotFitting_init (P := l.prog) (w := w) (base := base) Z F_c_NotFitting_init (H_p_copied)⟩
  have H_c_NotShown_init : HasE0 l.prog w K mg base "NotShown" "NotShown.__init__" s_c_NotShown_init ["self"] ["code"] 7 (spInitN K "NotShown" [] 6) := ⟨_, _, _, E_c_NotShown_init, has_c_NotShown_init (P := l.prog) (w := w) (base := base) Z F_c_NotShown_init (H_p_copied)⟩
  have H_c_NotABlock_init : HasE0 l.prog w K mg base "NotABlock" "NotABlock.__init__" s_c_NotABlock_init ["self", "lot"] ["lot", "code"] 7 (spInitN K "NotABlock" ["lot"] 6) := ⟨_, _, _, E_c_NotABlock_init, has_c_NotABlock_init (P := l.prog) (w := w) (base := base) Z F_c_NotABlock_init (H_p_copied)⟩
  have H_c_OtherFinds_init : HasE0 l.prog w K mg base "OtherFinds" "OtherFinds.__init__" s_c_OtherFinds_init ["self"] ["code"] 7 (spInitN K "OtherFinds" [] 6) := ⟨_, _, _, E_c_OtherFinds_init, has_c_OtherFinds_init (P := l.prog) (w := w) (base := base) Z F_c_OtherFinds_init (H_p_copied)⟩
  have H_c_Same_init : HasE0 l.prog w K mg base "Same" "Same.__init__" s_c_Same_init ["self", "name"] ["name", "code"] 7 (spInitN K "Same" ["name"] 6) := ⟨_, _, _, E_c_Same_init, has_c_Same_init (P := l.prog) (w := w) (base := base) Z F_c_Same_init (H_p_copied)⟩
  have H_c_NoTable_init : HasE0 l.prog w K mg base "NoTable" "NoTable.__init__" s_c_NoTable_init ["self", "why", "found"] ["why", "found", "code"] 7 (spInitN K "NoTable" ["why", "found"] 6) := ⟨_, _, _, E_c_NoTable_init, has_c_NoTable_init (P := l.prog) (w := w) (base := base) Z F_c_NoTable_init (H_p_copied)⟩
  have H_c_Taken_init : HasE0 l.prog w K mg base "Taken" "Taken.__init__" s_c_Taken_init ["self", "name"] ["name", "code"] 7 (spInitN K "Taken" ["name"] 6) := ⟨_, _, _, E_c_Taken_init, has_c_Taken_init (P := l.prog) (w := w) (base := base) Z F_c_Taken_init (H_p_copied)⟩
  have H_c_InUse_init : HasE0 l.prog w K mg base "InUse" "InUse.__init__" s_c_InUse_init ["self", "mark"] ["mark", "code"] 7 (spInitN K "InUse" ["mark"] 6) := ⟨_, _, _, E_c_InUse_init, has_c_InUse_init (P := l.prog) (w := w) (base := base) Z F_c_InUse_init (H_p_copied)⟩
  have H_c_NoFinds_init : HasE0 l.prog w K mg base "NoFinds" "NoFinds.__init__" s_c_NoFinds_init ["self"] ["code"] 7 (spInitN K "NoFinds" [] 6) := ⟨_, _, _, E_c_NoFinds_init, has_c_NoFinds_init (P := l.prog) (w := w) (base := base) Z F_c_NoFinds_init (H_p_copied)⟩
  have H_c_UnknownName_init : HasE0 l.prog w K mg base "UnknownName" "UnknownName.__init__" s_c_UnknownName_init ["self", "name"] ["name", "code"] 7 (spInitN K "UnknownName" ["name"] 6) := ⟨_, _, _, E_c_UnknownName_init, has_c_UnknownName_init (P := l.prog) (w := w) (base := base) Z F_c_UnknownName_init (H_p_copied)⟩
  have H_c_UnknownFind_init : HasE0 l.prog w K mg base "UnknownFind" "UnknownFind.__init__" s_c_UnknownFind_init ["self", "name"] ["name", "code"] 7 (spInitN K "UnknownFind" ["name"] 6) := ⟨_, _, _, E_c_UnknownFind_init, has_c_UnknownFind_init (P := l.prog) (w := w) (base := base) Z F_c_UnknownFind_init (H_p_copied)⟩
  have H_c_UnknownNode_init : HasE0 l.prog w K mg base "UnknownNode" "UnknownNode.__init__" s_c_UnknownNode_init ["self", "lot"] ["lot", "code"] 7 (spInitN K "UnknownNode" ["lot"] 6) := ⟨_, _, _, E_c_UnknownNode_init, has_c_UnknownNode_init (P := l.prog) (w := w) (base := base) Z F_c_UnknownNode_init (H_p_copied)⟩
  have H_c_UnknownKept_init : HasE0 l.prog w K mg base "UnknownKept" "UnknownKept.__init__" s_c_UnknownKept_init ["self", "at"] ["at", "code"] 7 (spInitN K "UnknownKept" ["at"] 6) := ⟨_, _, _, E_c_UnknownKept_init, has_c_UnknownKept_init (P := l.prog) (w := w) (base := base) Z F_c_UnknownKept_init (H_p_copied)⟩
  have H_c_NothingLeft_init : HasE0 l.prog w K mg base "NothingLeft" "NothingLeft.__init__" s_c_NothingLeft_init ["self"] ["code"] 7 (spInitN K "NothingLeft" [] 6) := ⟨_, _, _, E_c_NothingLeft_init, has_c_NothingLeft_init (P := l.prog) (w := w) (base := base) Z F_c_NothingLeft_init (H_p_copied)⟩
  have H_l_by_place := has_l_by_place (P := l.prog) (w := w) (base := base) Z A_l_by_place (H_c_InvalidName_init) (H_c_InvalidLot_init) (H_c_InvalidFind_init) (H_c_InvalidWord_init) (H_c_InvalidFact_init) (H_c_InvalidOrder_init) (H_c_InvalidKind_init) (H_c_InvalidPair_init) (H_c_InvalidDeed_init) (H_c_InvalidText_init) (H_c_InvalidNumber_init) (H_c_InvalidStatement_init) (H_c_InvalidQuestion_init) (H_c_InvalidClaim_init) (H_c_InvalidTimes_init) (H_c_InvalidWeights_init) (H_c_DuplicateName_init) (H_c_TooMany_init) (H_c_TooFew_init) (H_c_CannotStand_init) (H_c_Standing_init) (H_c_Clash_init) (H_c_NotFitting_init) (H_c_NotShown_init) (H_c_NotABlock_init) (H_c_OtherFinds_init) (H_c_Same_init) (H_c_NoTable_init) (H_c_Taken_init) (H_c_InUse_init) (H_c_NoFinds_init) (H_c_UnknownName_init) (H_c_UnknownFind_init) (H_c_UnknownNode_init) (H_c_UnknownKept_init) (H_c_NothingLeft_init)
  have H_l_by_name := has_l_by_name (P := l.prog) (w := w) (base := base) Z A_l_by_name (H_c_InvalidName_init) (H_c_InvalidLot_init) (H_c_InvalidFind_init) (H_c_InvalidWord_init) (H_c_InvalidFact_init) (H_c_InvalidOrder_init) (H_c_InvalidKind_init) (H_c_InvalidPair_init) (H_c_InvalidDeed_init) (H_c_InvalidText_init) (H_c_InvalidNumber_init) (H_c_InvalidStatement_init) (H_c_InvalidQuestion_init) (H_c_InvalidClaim_init) (H_c_InvalidTimes_init) (H_c_InvalidWeights_init) (H_c_DuplicateName_init) (H_c_TooMany_init) (H_c_TooFew_init) (H_c_CannotStand_init) (H_c_Standing_init) (H_c_Clash_init) (H_c_NotFitting_init) (H_c_NotShown_init) (H_c_NotABlock_init) (H_c_OtherFinds_init) (H_c_Same_init) (H_c_NoTable_init) (H_c_Taken_init) (H_c_InUse_init) (H_c_NoFinds_init) (H_c_UnknownName_init) (H_c_UnknownFind_init) (H_c_UnknownNode_init) (H_c_UnknownKept_init) (H_c_NothingLeft_init)
  have H_l_same := has_l_same (P := l.prog) (w := w) (base := base) Z A_l_same
  have H_l_raised := has_l_raised (P := l.prog) (w := w) (base := base) Z gRF gRM2 A_l_raised (H_c_Taken_init) (H_c_UnknownFind_init)
  have H_l_codes := has_l_codes (P := l.prog) (w := w) (base := base) Z A_l_codes
  have H_l_told := has_l_told (P := l.prog) (w := w) (base := base) Z A_l_told
  have H_l_due := has_l_due (P := l.prog) (w := w) (base := base) Z A_l_due
  have H_l_kinds := has_l_kinds (P := l.prog) (w := w) (base := base) Z gK A_l_kinds (H_c_InvalidName_init) (H_c_InvalidLot_init) (H_c_InvalidFind_init) (H_c_InvalidWord_init) (H_c_InvalidFact_init) (H_c_InvalidOrder_init) (H_c_InvalidKind_init) (H_c_InvalidPair_init) (H_c_InvalidDeed_init) (H_c_InvalidText_init) (H_c_InvalidNumber_init) (H_c_InvalidStatement_init) (H_c_InvalidQuestion_init) (H_c_InvalidClaim_init) (H_c_InvalidTimes_init) (H_c_InvalidWeights_init) (H_c_DuplicateName_init) (H_c_TooMany_init) (H_c_TooFew_init) (H_c_CannotStand_init) (H_c_Standing_init) (H_c_Clash_init) (H_c_NotFitting_init) (H_c_NotShown_init) (H_c_NotABlock_init) (H_c_OtherFinds_init) (H_c_Same_init) (H_c_NoTable_init) (H_c_Taken_init) (H_c_InUse_init) (H_c_NoFinds_init) (H_c_UnknownName_init) (H_c_UnknownFind_init) (H_c_UnknownNode_init) (H_c_UnknownKept_init) (H_c_NothingLeft_init)
  have H_l_bases := has_l_bases (P := l.prog) (w := w) (base := base) Z gK gFE gMI gVE gLE gIE gKE A_l_bases
  have H_l_all_so := has_l_all_so (P := l.prog) (w := w) (base := base) Z A_l_all_so (H_l_codes) (H_l_same) (H_l_told) (H_l_due) (H_l_kinds) (H_l_bases)
  have H_p_law := has_p_law (P := l.prog) (w := w) (base := base) Z A_p_law (H_l_start) (H_l_odd) (H_l_pick) (H_l_word) (H_l_draw) (H_l_by_place) (H_l_by_name) (H_l_same) (H_l_raised) (H_l_all_so)
  exact has_fn H_p_law hfa l17
end Th
open PySem PySem.W PyProof.Rows
set_option maxRecDepth 100000 in
set_option maxHeartbeats 0 in
theorem PySem.Challenge.cw_threeorders_k00_errors_by_themselves_holds : PySem.Challenge.rw_threeorders_k00_errors_by_themselves.Holds := by
  exact Th.head_first @Th.all_mk
