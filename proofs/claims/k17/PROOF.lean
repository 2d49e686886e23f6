import PyProof.Rows.All
import Wide.All
import OpenK.AllK
import Wide.FinOn
import PyProof.EqAt
import PyProof.EqKinds
import PyProof.TupleCall
import HandS.Base
import HandS.Call
import HandS.List
import HandS.Set
import HandS.SetFor
import HandS.Comp
import HandS.Iter
import HandS.Text
import HandS.Ends
import HandS.Words
import HandS.WordsList
import HandS.IsInst
import HandS.Style
import HandS.TupAny
import HandS.More
import HandS.Walk
import HandS.Wide
import HandS.Codes
import HandS.ReCall
import HandS.Strs
import KE.KExcInit
import KE.KTryMore
import KE.KExcHand
import HandS.Exc
import HandS.ExcInit
import HandS.WordsExc
import HandS.HotCalls
import HandS.Lambda
import HandS.ExcField
import HandS.EndOwn
import HandS.Deep
import PyProof.P3In
import KE.GoesEnum
import HandS.Star
import PyProof.EnumMake
import HandS.Defaults
import KE.KOpsOwn
import HandS.CallLocal
import PySem.Challenge.RW_threeorders_k17_entries_across_and_apart
set_option Elab.async false
set_option linter.all false
set_option maxRecDepth 100000
set_option maxHeartbeats 8000000
/-! sets of texts: set(xs) of a list or tuple of texts, sorted of it -/
namespace L2
open PySem PySem.Spec PyProof.Rows

/-- the text that an entry of a set's table holds -/
def tagOf (v : Value) : Str := match v with | .str x _ => x | _ => Str.empty
def tagE (e : Int × Value) : Str := tagOf e.2

/-- at a stands a set whose members are the texts of l, each once; its table can be walked -/
def TxSet (P : Program) (w : World) (h : Heap) (a : Addr) (l : List Str) : Prop :=
  ∃ o es ep t, h.get? a = some o ∧ o.ExactSet ∧ o.data = .set es ep t ∧
    (∀ e ∈ es.toList, ∃ tk, e.2 = Value.str (tagE e) tk ∧ e.1 = (PySem.strKind P w).hash (tagE e)) ∧
    (es.toList.map tagE).Perm l ∧ l.Nodup ∧ es.size < scanBound ∧ t.fits es.size = true ∧ Ris t.place.toList ∧
    (w.params.followText "set-order" = true ∨ t.led = true)

section
variable {P : Program} {w : World} {h h' : Heap} {a : Addr} {l : List Str}
theorem TxSet.stay (R : TxSet P w h a l) (k : ∀ o, h.get? a = some o → h'.get? a = some o) : TxSet P w h' a l :=
  let ⟨o, es, ep, t, ho, r⟩ := R
  ⟨o, es, ep, t, k o ho, r⟩
theorem TxSet.perm {m : List Str} (R : TxSet P w h a l) (p : l.Perm m) : TxSet P w h a m :=
  let ⟨o, es, ep, t, ho, hx, hd, g, pm, nd, r⟩ := R
  ⟨o, es, ep, t, ho, hx, hd, g, pm.trans p, p.nodup_iff.mp nd, r⟩
theorem tx_elems {es : List (Int × Value)} (g : ∀ e ∈ es, ∃ tk, e.2 = Value.str (tagE e) tk ∧ e.1 = (PySem.strKind P w).hash (tagE e)) : ElemsOf (PySem.strKind P w) es := by
  intro e he
  obtain ⟨tk, h1, h2⟩ := g e he
  refine ⟨⟨tagE e, ?_, h2⟩, ?_⟩
  · rw [h1]
    exact PySem.strKind_is P w (tagE e) tk
  · rw [h1]
    rfl
theorem tx_is {es : List (Int × Value)} (g : ∀ e ∈ es, ∃ tk, e.2 = Value.str (tagE e) tk ∧ e.1 = (PySem.strKind P w).hash (tagE e)) {e : Int × Value} (he : e ∈ es) (x : Str) : (PySem.strKind P w).is x e.2 = true ↔ tagE e = x := by
  obtain ⟨tk, h1, _⟩ := g e he
  constructor
  · intro q
    rw [h1] at q
    obtain ⟨t, z⟩ := Value.isStrOf_shape (show Value.isStrOf x (Value.str (tagE e) tk) = true from q)
    injection z
  · intro q
    rw [h1, q]
    exact PySem.strKind_is P w x tk
end

section
variable {P : Program} {w : World} {A : Around} {E : Value → Shared → Prop} {s : Shared} {a : Addr} {l : List Str}

/-- the set's store, and the table's growth behind it -/
theorem tx_store {g : Bool → Sem Unit} (hg : ∀ (b : Bool) (s₁ : Shared) (Q' : Unit → Shared → Prop), Q' () s₁ → wpAny (model P w) A (g b) Q' E s₁)
    {o : Obj} {es : Array (Int × Value)} {ep : Nat} {t : SetTable} (ho : s.heap.get? a = some o) (hex : o.ExactSet) (hd : o.data = .set es ep t)
    {fs : Array (Int × Value)} {u : SetTable} {m : List Str}
    (hgood : ∀ e ∈ fs.toList, ∃ tk, e.2 = Value.str (tagE e) tk ∧ e.1 = (PySem.strKind P w).hash (tagE e)) (hp : (fs.toList.map tagE).Perm m) (hm : m.Nodup)
    (hb : fs.size < scanBound) (hf : u.fits fs.size = true) (hr : Ris u.place.toList) (hl : w.params.followText "set-order" = true ∨ u.led = true) {dum : Bool} {R : Option Bool → Shared → Prop}
    (fin : ∀ h', Heap.SameBut a s.heap h' → TxSet P w h' a m → R (some true) { s with heap := h' }) :
    wpAny (model P w) A (do
        storeSet a fs u
        if (!dum && u.tooFull) = true then do
            g (relayAll u fs (SetTable.grown fs.size)).2.2
            storeSet a (relayAll u fs (SetTable.grown fs.size)).1 (relayAll u fs (SetTable.grown fs.size)).2.1
            pure (some true)
          else pure (some true)) R E s := by
  refine wpAny_bind (wpAny_storeSet_of ho hd ?_ (fits_of_scanBound hb))
  have q1 := store_at (es' := fs) (t' := u) ho hd
  have b1 := Heap.SameBut.update s.heap a (Obj.putSet fs u)
  split
  · have c1 := relayAll_perm u fs (SetTable.grown fs.size)
    have c2 := relayAll_fits u fs (SetTable.grown fs.size)
    have c3 := relayAll_ris u fs (SetTable.grown fs.size)
    have c4 := relayAll_led u fs (SetTable.grown fs.size)
    generalize relayAll u fs (SetTable.grown fs.size) = Z at c1 c2 c3 c4 ⊢
    obtain ⟨gs, v, gave⟩ := Z
    dsimp only at c1 c2 c3 c4 ⊢
    have z1 : gs.size = fs.size := by rw [← Array.length_toList, c1.length_eq, Array.length_toList]
    have z2 : gs.size < scanBound := by rw [z1]; exact hb
    refine wpAny_bind (hg _ _ _ ?_)
    refine wpAny_bind (wpAny_storeSet_of q1 rfl ?_ (fits_of_scanBound z2))
    have q2 := store_at (es' := gs) (t' := v) q1 rfl
    refine wpAny_pure (fin _ (b1.trans (Heap.SameBut.update _ a _)) ?_)
    refine ⟨_, gs, _, v, q2, hex, rfl, fun e he => hgood e (c1.mem_iff.mp he), (c1.map tagE).trans hp, hm, z2, c2, c3, ?_⟩
    rcases hl with z | z
    · exact .inl z
    · exact .inr (c4.trans z)
  · exact wpAny_pure (fin _ b1 ⟨_, fs, _, u, q1, hex, rfl, hgood, hp, hm, hb, hf, hr, hl⟩)

/-- one text more -/
theorem tx_put {x : Str} {tk : Tok} {Q : Bool → Shared → Prop} (R : TxSet P w s.heap a l) (room : l.length + 1 < scanBound)
    (fin : ∀ h' b, Heap.SameBut a s.heap h' → TxSet P w h' a (if x ∈ l then l else x :: l) → Q b { s with heap := h' }) :
    wpAny (model P w) A (setAddHashed a (.str x tk) ((PySem.strKind P w).hash x)) Q E s := by
  obtain ⟨o, es, ep, t, ho, hex, hd, g, hp, nd, hb, hf, hr, hl⟩ := R
  have hkey : (PySem.strKind P w).is x (.str x tk) = true := PySem.strKind_is P w x tk
  have hsc : (Value.str x tk).scannable = true := rfl
  have hel := tx_elems g
  unfold setAddHashed setAddHashedIn
  refine wpAny_holding (wpAny_bind (wpAny_setState_of ho hd hf ?_))
  dsimp only
  rw [byScan_of hsc hb hel]
  simp only [↓reduceIte]
  unfold setAddByScan
  refine wpAny_bind (wpAny_bind (wpAny_rule (wpAny_bind (wpAny_setScan_of hkey ho hd hf hel ?_))))
  cases hfi : List.findIdx? (fun e => (PySem.strKind P w).is x e.2) es.toList with
  | some j =>
    dsimp only
    obtain ⟨hj, pj, _⟩ := List.findIdx?_eq_some_iff_getElem.mp hfi
    have hx : x ∈ l := hp.mem_iff.mp (List.mem_map.mpr ⟨es.toList[j], List.getElem_mem hj, (tx_is g (List.getElem_mem hj) x).mp pj⟩)
    refine wpAny_pure (wpAny_pure (fin s.heap _ (Heap.SameBut.refl a s.heap) ?_))
    rw [if_pos hx]
    exact ⟨o, es, ep, t, ho, hex, hd, g, hp, nd, hb, hf, hr, hl⟩
  | none =>
    dsimp only
    have hx : x ∉ l := fun z => by
      obtain ⟨e, he, q⟩ := List.mem_map.mp (hp.mem_iff.mpr z)
      have c := List.findIdx?_eq_none_iff.mp hfi e he
      rw [(tx_is g he x).mpr q] at c
      cases c
    have gw : ∀ (b : Bool) {s₁ : Shared} {Q' : Unit → Shared → Prop}, Q' () s₁ → wpAny (model P w) A (match b with | true => rule "set.scan.the-table-gave-way" | false => pure ()) Q' E s₁ :=
      fun b s₁ Q' q => by cases b <;> first | exact wpAny_pure q | exact wpAny_rule q
    have d1 := layNew_perm t es ((PySem.strKind P w).hash x) (.str x tk)
    have d2 := layNew_fits t es ((PySem.strKind P w).hash x) (.str x tk)
    have d3 := layNew_ris t es ((PySem.strKind P w).hash x) (.str x tk) hr
    have d4 := layNew_led t es ((PySem.strKind P w).hash x) (.str x tk)
    generalize layNew t es ((PySem.strKind P w).hash x) (.str x tk) = Z at d1 d2 d3 d4 ⊢
    obtain ⟨fs, u, dum, gave⟩ := Z
    dsimp only at d1 d2 d3 d4 ⊢
    rw [Array.toList_push] at d1
    have e1 : fs.toList.Perm (((PySem.strKind P w).hash x, Value.str x tk) :: es.toList) := d1.trans (List.perm_append_singleton _ _)
    have e2 : (fs.toList.map tagE).Perm (x :: l) := (e1.map tagE).trans (List.Perm.cons x hp)
    have good : ∀ e ∈ fs.toList, ∃ tk, e.2 = Value.str (tagE e) tk ∧ e.1 = (PySem.strKind P w).hash (tagE e) := fun e he => by
      rcases List.mem_cons.mp (e1.mem_iff.mp he) with z | z
      · rw [z]; exact ⟨tk, rfl, rfl⟩
      · exact g e z
    have e3 : (x :: l).Nodup := List.nodup_cons.mpr ⟨hx, nd⟩
    have e4 : fs.size = l.length + 1 := by rw [← Array.length_toList, ← List.length_map (f := tagE), e2.length_eq]; rfl
    have e5 : fs.size < scanBound := by rw [e4]; exact room
    have e6 : w.params.followText "set-order" = true ∨ u.led = true := by
      rcases hl with z | z
      · exact .inl z
      · exact .inr (d4.trans z)
    have last : ∀ h' b, Heap.SameBut a s.heap h' → TxSet P w h' a (x :: l) → Q b { s with heap := h' } := fun h' b sb r => fin h' b sb (by rw [if_neg hx]; exact r)
    refine wpAny_bind (gw _ ?_)
    split
    · refine wpAny_bind ?_
      rw [hashByValue_scannable 8 hsc]
      refine wpAny_pure ?_
      refine tx_store ?_ ho hex hd good e2 e3 e5 ?_ ?_ ?_ ?_
      · intro b s₁ Q' q; cases b <;> first | exact wpAny_pure q | exact wpAny_rule q
      · first | (split <;> first | exact d2 | exact SetTable.fits_plain_off d2) | exact d2
      · first | (split <;> exact d3) | exact d3
      · first | (split <;> exact e6) | exact e6
      · intro h' sb r; dsimp only; exact wpAny_pure (last h' _ sb r)
    · refine wpAny_bind (wpAny_pure ?_)
      simp only [↓reduceIte]
      refine tx_store ?_ ho hex hd good e2 e3 e5 d2 d3 e6 ?_
      · intro b s₁ Q' q; cases b <;> first | exact wpAny_pure q | exact wpAny_rule q
      · intro h' sb r; dsimp only; exact wpAny_pure (last h' _ sb r)

/-- the texts of xs, each once, as a set that took them one by one holds them -/
def once : List Str → List Str → List Str
  | acc, [] => acc
  | acc, x :: r => once (if x ∈ acc then acc else x :: acc) r
theorem once_nodup : ∀ (xs acc : List Str), acc.Nodup → (once acc xs).Nodup
  | [], _, h => h
  | x :: r, acc, h => by
    unfold once
    refine once_nodup r _ ?_
    split
    · exact h
    · exact List.nodup_cons.mpr ⟨by assumption, h⟩
theorem once_mem : ∀ (xs acc : List Str) (y : Str), y ∈ once acc xs ↔ y ∈ acc ∨ y ∈ xs
  | [], acc, y => by simp [once]
  | x :: r, acc, y => by
    unfold once
    rw [once_mem r _ y]
    split
    · rename_i hx
      constructor
      · rintro (z | z)
        · exact .inl z
        · exact .inr (List.mem_cons_of_mem _ z)
      · rintro (z | z)
        · exact .inl z
        · rcases List.mem_cons.mp z with e | z
          · exact .inl (e ▸ hx)
          · exact .inr z
    · simp only [List.mem_cons]
      constructor
      · rintro ((z | z) | z)
        · exact .inr (.inl z)
        · exact .inl z
        · exact .inr (.inr z)
      · rintro (z | z | z)
        · exact .inl (.inr z)
        · exact .inl (.inl z)
        · exact .inr z
theorem once_length : ∀ (xs acc : List Str), (once acc xs).length ≤ acc.length + xs.length
  | [], acc => by simp [once]
  | x :: r, acc => by
    unfold once
    have q := once_length r (if x ∈ acc then acc else x :: acc)
    rw [List.length_cons]
    split at q
    · rw [if_pos (by assumption)]; omega
    · rw [if_neg (by assumption)]; rw [List.length_cons] at q; omega

/-- the loop of set(xs): one text after another -/
theorem tx_loop {I : Addr} {fp wr : List Addr} {G : Array GenState → Array GenState → Prop} {n : Nat} {Pv : Nat → Value → Prop} {St : Nat → Shared → Prop} {R : Result → Shared → Prop}
    (W : WalksS P w A.in1 I fp wr G n Pv St) (S : Addr) (hSf : S ∉ fp) (xs : List Str) (hn : n = xs.length) (hval : ∀ i v, Pv i v → ∃ x t, xs[i]? = some x ∧ v = .str x t) :
    ∀ (k i : Nat) (acc : List Str) (s : Shared), n - i = k → i ≤ n → St i s → TxSet P w s.heap S acc → acc.length + k + 1 < scanBound →
      (∀ s', Moved (S :: wr) G s s' → TxSet P w s'.heap S (once acc (xs.drop i)) → R (.ok (.ret .none)) s') →
      codeAny (model P w) A (.builtin "set.update.loop" ⟨[.ref S, .ref I], []⟩) R s := by
  have nw : S ∉ wr := fun h => hSf (W.sub _ h)
  have sb : ∀ b ∈ wr, b ∈ S :: wr := fun b hb => List.mem_cons_of_mem _ hb
  intro k
  induction k with
  | zero =>
    intro i acc s hk hi hst hS _ hR
    have e : i = n := by omega
    subst e
    refine codeAny_builtin F.entry_set_update_loop ?_
    rw [Around.under_plainId F.plain_set_update_loop _]
    show wpAny _ A.in1 (pyNext (.ref I) >>= _) _ _ s
    refine wpAny_bind (W.done s _ _ hst fun s' hm => ?_)
    show wpAny _ A.in1 (ret Value.none) _ _ s'
    have q : xs.drop i = [] := List.drop_eq_nil_of_le (by omega)
    rw [q] at hR
    exact wpAny_pure (hR s' (hm.mono sb) (hS.stay fun o e => hm.heap S o nw e))
  | succ k ih =>
    intro i acc s hk hi hst hS hroom hR
    have lt : i < n := by omega
    refine codeAny_builtin F.entry_set_update_loop ?_
    rw [Around.under_plainId F.plain_set_update_loop _]
    show wpAny _ A.in1 (pyNext (.ref I) >>= _) _ _ s
    refine wpAny_bind (W.item i s _ _ lt hst fun v s' hP hst' hm => ?_)
    obtain ⟨x, t, hx, rfl⟩ := hval i v hP
    have hS1 : TxSet P w s'.heap S acc := hS.stay fun o e => hm.heap S o nw e
    show wpAny _ A.in1 (holding [Value.str x t] (setAdd S (.str x t)) >>= _) _ _ s'
    refine wpAny_bind (wpAny_holding ?_)
    unfold setAdd
    refine wpAny_holding ?_
    refine wpAny_bind ((PySem.strKind P w).pyHash (k := x) (PySem.strKind_is _ _ _ _) ?_)
    refine tx_put (s := { s' with toks := s'.toks + 1 }) hS1 (by omega) fun h' b hsb hS2 => ?_
    have ed : xs.drop i = x :: xs.drop (i + 1) := by
      have hlt : i < xs.length := by omega
      rw [List.drop_eq_getElem_cons hlt]
      have q : xs[i] = x := by
        rw [List.getElem?_eq_getElem hlt] at hx
        exact Option.some.inj hx
      rw [q]
    have hlen : (if x ∈ acc then acc else x :: acc).length ≤ acc.length + 1 := by
      split
      · omega
      · exact Nat.le_refl _
    refine wpAny_pure ⟨plainId_quiet F.plain_set_update_loop _, ih (i + 1) _ _ (by omega) lt (W.frame _ s' _ _ hst' (Nat.le_succ _) fun b hb o e => ?_) hS2 (by omega) fun s'' hm'' hS'' => ?_⟩
    · rw [hsb.2 b (fun h : b = S => hSf (by rw [← h]; exact hb))]; exact e
    · refine hR s'' (Moved.trans W.gtrans ((hm.mono sb).then_heap (Nat.le_succ _) fun b o hb e => ?_) hm'') (by rw [ed]; exact hS'')
      rw [hsb.2 b (fun h : b = S => hb (by rw [h]; exact List.mem_cons_self))]; exact e
end

/-- the set that set() has just laid -/
abbrev txNew (w : World) : Obj := { cls := .type "set", dict := none, data := .set #[] 0 (.fresh 0 0 (!w.params.followText "set-order")) }
theorem txNew_at {P : Program} {w : World} {h : Heap} {a : Addr} (ho : h.get? a = some (txNew w)) : TxSet P w h a [] :=
  ⟨_, #[], 0, _, ho, ⟨rfl, rfl, rfl⟩, rfl, (fun e he => by simp at he), (by simp), List.nodup_nil, (by decide), (by rfl), List.Pairwise.nil, by
    show _ ∨ (!w.params.followText "set-order") = true
    cases w.params.followText "set-order"
    · exact .inr rfl
    · exact .inl rfl⟩
theorem txs_at : ∀ {us : List Value} {xs : List Str}, StrsAre us xs → ∀ (i : Nat) (v : Value), us[i]? = some v → ∃ x t, xs[i]? = some x ∧ v = .str x t
  | _, _, .nil, i, v, h => by simp at h
  | _, _, .cons y t r, 0, v, h => ⟨y, t, rfl, by simpa using h.symm⟩
  | _, _, .cons y t r, i + 1, v, h => by
    simp only [List.getElem?_cons_succ] at h
    exact txs_at r i v h
section
variable {P : Program} {w : World} {A : Around} {E : Value → Shared → Prop} {s : Shared}

set_option maxRecDepth 100000 in
set_option maxHeartbeats 6400000 in
/-- set(xs), xs a tuple of texts -/
theorem tx_call_tuple {l : Addr} {items : Array Value} (xs : List Str) {Q : Value → Shared → Prop} (hh : A.handled = none) (hl : s.heap.IsTuple l items) (hit : StrsAre items.toList xs) (hb : xs.length + 1 < scanBound)
    (fin : ∀ (h' : Heap) (tk : Nat), TxSet P w h' s.heap.objs.size (once [] xs) → (∀ b o, s.heap.get? b = some o → h'.get? b = some o) → Q (.ref s.heap.objs.size) { s with heap := h', toks := tk }) :
    wpAny (model P w) A (call (.type "set") [.ref l]) Q E s := by
  have isz : items.size = xs.length := by
    have q := StrsAre.len_eq hit
    rw [Array.length_toList] at q
    exact q
  obtain ⟨c, tl, hmro⟩ := F.called_set.mro
  have hmade := F.called_set.made
  have hsub := F.called_set.sub
  refine wpAny_call (codeAny_of_tree ?_)
  show wpAny _ _ (callAny (.type "set") _) _ _ _
  refine wpAny_pure ⟨Code.quiet_builtin _ (by decide +kernel), codeAny_builtin F.entry_type_call ?_⟩
  rw [Around.under_plain (weight_type_call_type "set" [.ref l] []) rfl]
  have h1 := F.called_set.notType
  have h2 := F.called_set.canCreate
  have hct := F.typeCall_set_1 (.ref l)
  repeat (any_goals (first | assumption | wp_step))
  refine codeAny_mono (code_set_led1 (.ref l) (E := E) (Q₁ := fun obj s₁ => obj = .ref s.heap.objs.size ∧ s₁ = { s with heap := s.heap.push (txNew w) }) ⟨rfl, rfl⟩) fun r s₁ hr => ?_
  cases r with
  | error e => exact hr
  | ok fl =>
    cases fl with
    | ret obj =>
      obtain ⟨rfl, rfl⟩ := hr
      have atS : (s.heap.push (txNew w)).get? s.heap.objs.size = some (txNew w) := Heap.get?_push_size _ rfl
      have hT : Shared.TypeIs { s with heap := s.heap.push (txNew w) } (.ref s.heap.objs.size) "set" := ⟨_, atS, rfl⟩
      have hli := F.called_set.init.lookup
      have hbi := F.called_set.init.bind (.ref s.heap.objs.size)
      repeat (any_goals (first | assumption | wp_step))
      refine codeAny_mono (codeAny_call_builtin (R := wants (fun r s₂ => r = .none ∧ ∃ h' tk, s₂ = { s with heap := h', toks := tk } ∧ TxSet P w h' s.heap.objs.size (once [] xs) ∧
          (∀ b o, s.heap.get? b = some o → h'.get? b = some o)) E) F.called_set.init.plain F.entry_set_init (check_set_init_1 hT ?_)) fun r₂ s₂ hr₂ => ?_
      · obtain ⟨ol, hol, hcl, nl, hdl⟩ := hl
        obtain ⟨ocls, odict, odata, oslots⟩ := ol
        simp only at hcl hdl
        subst hcl; subst hdl
        have old : (s.heap.push (txNew w)).get? l = some { cls := .type "tuple", dict := odict, data := .seq items nl, slots := oslots } := Heap.get?_push_of_some _ hol
        have hsls := F.sub_tuple_set
        have hslf := F.sub_tuple_frozenset
        have hne : (Value.type "tuple" == Value.type "dict") = false := by decide
        have hl1 : (s.heap.push (txNew w)).IsTuple l items := ⟨_, old, rfl, nl, rfl⟩
        unfold Builtin.«set.__init__» noKeywords Builtin.Frozenset.updateFrom
        generalize hPI : pyIter = PI
        wp_walk
        subst hPI
        refine wpAny_pyIter_tuple hl1 ?_
        refine wpAny_bind (wpAny_runValue ?_)
        have lS : l < s.heap.objs.size := Heap.lt_size hol
        have hh3 : A.in1.in1.in1.handled = none := by simp [hh]
        have apart : l ≠ (s.heap.push (txNew w)).objs.size := by
          rw [Heap.size_push]; exact Nat.ne_of_lt (Nat.lt_succ_of_lt lS)
        have notfp : s.heap.objs.size ∉ [(s.heap.push (txNew w)).objs.size, l] := by
          rw [Heap.size_push]; simp only [List.mem_cons, List.mem_singleton, List.not_mem_nil, or_false, not_or]
          exact ⟨Nat.ne_of_lt (Nat.lt_succ_self _), Nat.ne_of_gt lS⟩
        have hval : ∀ (i : Nat) (v : Value), items[i]? = some v → ∃ x t, xs[i]? = some x ∧ v = .str x t := fun i v hv => txs_at hit i v (by rw [Array.getElem?_toList]; exact hv)
        have at0 : ((s.heap.push (txNew w)).push { cls := .type "tuple_iterator", data := .fields #[.ref l, .int 0 0] }).get? s.heap.objs.size = some (txNew w) := Heap.get?_push_of_some _ atS
        refine tx_loop ((Walks.tuple hh3 _ l apart items).toS) s.heap.objs.size notfp xs isz hval (items.size - 0) 0 [] _ (by omega) (Nat.zero_le _)
          ⟨⟨_, Heap.get?_push_size _ rfl, rfl, rfl⟩, (hl1.push _)⟩ (txNew_at at0) (by rw [isz]; simpa using hb) fun s' hm hS => ?_
        obtain ⟨h', g2, d', tk', os'⟩ := s'
        have eg : g2 = s.gens := hm.gens
        have ed : d' = s.drawn := hm.drawn
        have eo : os' = s.os := hm.os
        subst eg; subst ed; subst eo
        show wpAny _ _ _ _ _ _
        refine wpAny_pure ?_
        show wpAny _ _ (ret Value.none) _ _ _
        refine wpAny_pure ⟨rfl, h', tk', rfl, hS, fun b o e => ?_⟩
        have b0 : b < s.heap.objs.size := Heap.lt_size e
        have b1 : b ≠ s.heap.objs.size := Nat.ne_of_lt b0
        have b2 : b ≠ (s.heap.push (txNew w)).objs.size := by
          rw [Heap.size_push]; exact Nat.ne_of_lt (Nat.lt_succ_of_lt b0)
        exact hm.heap b o (by simp only [List.mem_cons, List.mem_singleton, List.not_mem_nil, or_false, not_or]; exact ⟨b1, b2⟩) (Heap.get?_push_of_some _ (Heap.get?_push_of_some _ e))
      · cases r₂ with
        | error e => exact hr₂
        | ok fl₂ =>
          cases fl₂ with
          | ret r =>
            obtain ⟨rfl, h', tk, rfl, hS, kp⟩ := hr₂
            repeat (any_goals (first | assumption | wp_step))
            exact fin _ _ hS kp
          | _ => exact hr₂.elim
    | _ => exact hr.elim

set_option maxRecDepth 100000 in
set_option maxHeartbeats 6400000 in
/-- set(xs), xs a list of texts -/
theorem tx_call_list {l : Addr} {items : Array Value} (xs : List Str) {Q : Value → Shared → Prop} (hh : A.handled = none) (hl : s.heap.IsList l items) (hit : StrsAre items.toList xs) (hb : xs.length + 1 < scanBound)
    (fin : ∀ (h' : Heap) (tk : Nat), TxSet P w h' s.heap.objs.size (once [] xs) → (∀ b o, s.heap.get? b = some o → h'.get? b = some o) → Q (.ref s.heap.objs.size) { s with heap := h', toks := tk }) :
    wpAny (model P w) A (call (.type "set") [.ref l]) Q E s := by
  have isz : items.size = xs.length := by
    have q := StrsAre.len_eq hit
    rw [Array.length_toList] at q
    exact q
  obtain ⟨c, tl, hmro⟩ := F.called_set.mro
  have hmade := F.called_set.made
  have hsub := F.called_set.sub
  refine wpAny_call (codeAny_of_tree ?_)
  show wpAny _ _ (callAny (.type "set") _) _ _ _
  refine wpAny_pure ⟨Code.quiet_builtin _ (by decide +kernel), codeAny_builtin F.entry_type_call ?_⟩
  rw [Around.under_plain (weight_type_call_type "set" [.ref l] []) rfl]
  have h1 := F.called_set.notType
  have h2 := F.called_set.canCreate
  have hct := F.typeCall_set_1 (.ref l)
  repeat (any_goals (first | assumption | wp_step))
  refine codeAny_mono (code_set_led1 (.ref l) (E := E) (Q₁ := fun obj s₁ => obj = .ref s.heap.objs.size ∧ s₁ = { s with heap := s.heap.push (txNew w) }) ⟨rfl, rfl⟩) fun r s₁ hr => ?_
  cases r with
  | error e => exact hr
  | ok fl =>
    cases fl with
    | ret obj =>
      obtain ⟨rfl, rfl⟩ := hr
      have atS : (s.heap.push (txNew w)).get? s.heap.objs.size = some (txNew w) := Heap.get?_push_size _ rfl
      have hT : Shared.TypeIs { s with heap := s.heap.push (txNew w) } (.ref s.heap.objs.size) "set" := ⟨_, atS, rfl⟩
      have hli := F.called_set.init.lookup
      have hbi := F.called_set.init.bind (.ref s.heap.objs.size)
      repeat (any_goals (first | assumption | wp_step))
      refine codeAny_mono (codeAny_call_builtin (R := wants (fun r s₂ => r = .none ∧ ∃ h' tk, s₂ = { s with heap := h', toks := tk } ∧ TxSet P w h' s.heap.objs.size (once [] xs) ∧
          (∀ b o, s.heap.get? b = some o → h'.get? b = some o)) E) F.called_set.init.plain F.entry_set_init (check_set_init_1 hT ?_)) fun r₂ s₂ hr₂ => ?_
      · obtain ⟨ol, hol, hcl, nl, hdl⟩ := hl
        obtain ⟨ocls, odict, odata, oslots⟩ := ol
        simp only at hcl hdl
        subst hcl; subst hdl
        have old : (s.heap.push (txNew w)).get? l = some { cls := .type "list", dict := odict, data := .seq items nl, slots := oslots } := Heap.get?_push_of_some _ hol
        have hsls := F.sub_list_set
        have hslf := F.sub_list_frozenset
        have hne : (Value.type "list" == Value.type "dict") = false := by decide
        have hl1 : (s.heap.push (txNew w)).IsList l items := ⟨_, old, rfl, nl, rfl⟩
        unfold Builtin.«set.__init__» noKeywords Builtin.Frozenset.updateFrom
        generalize hPI : pyIter = PI
        wp_walk
        subst hPI
        refine wpAny_pyIter_list hl1 ?_
        refine wpAny_bind (wpAny_runValue ?_)
        have lS : l < s.heap.objs.size := Heap.lt_size hol
        have hh3 : A.in1.in1.in1.handled = none := by simp [hh]
        have apart : l ≠ (s.heap.push (txNew w)).objs.size := by
          rw [Heap.size_push]; exact Nat.ne_of_lt (Nat.lt_succ_of_lt lS)
        have notfp : s.heap.objs.size ∉ [(s.heap.push (txNew w)).objs.size, l] := by
          rw [Heap.size_push]; simp only [List.mem_cons, List.mem_singleton, List.not_mem_nil, or_false, not_or]
          exact ⟨Nat.ne_of_lt (Nat.lt_succ_self _), Nat.ne_of_gt lS⟩
        have hval : ∀ (i : Nat) (v : Value), items[i]? = some v → ∃ x t, xs[i]? = some x ∧ v = .str x t := fun i v hv => txs_at hit i v (by rw [Array.getElem?_toList]; exact hv)
        have at0 : ((s.heap.push (txNew w)).push { cls := .type "list_iterator", data := .fields #[.ref l, .int 0 0] }).get? s.heap.objs.size = some (txNew w) := Heap.get?_push_of_some _ atS
        refine tx_loop ((Walks.list hh3 _ l apart items).toS) s.heap.objs.size notfp xs isz hval (items.size - 0) 0 [] _ (by omega) (Nat.zero_le _)
          ⟨⟨_, Heap.get?_push_size _ rfl, rfl, rfl⟩, (hl1.push _)⟩ (txNew_at at0) (by rw [isz]; simpa using hb) fun s' hm hS => ?_
        obtain ⟨h', g2, d', tk', os'⟩ := s'
        have eg : g2 = s.gens := hm.gens
        have ed : d' = s.drawn := hm.drawn
        have eo : os' = s.os := hm.os
        subst eg; subst ed; subst eo
        show wpAny _ _ _ _ _ _
        refine wpAny_pure ?_
        show wpAny _ _ (ret Value.none) _ _ _
        refine wpAny_pure ⟨rfl, h', tk', rfl, hS, fun b o e => ?_⟩
        have b0 : b < s.heap.objs.size := Heap.lt_size e
        have b1 : b ≠ s.heap.objs.size := Nat.ne_of_lt b0
        have b2 : b ≠ (s.heap.push (txNew w)).objs.size := by
          rw [Heap.size_push]; exact Nat.ne_of_lt (Nat.lt_succ_of_lt b0)
        exact hm.heap b o (by simp only [List.mem_cons, List.mem_singleton, List.not_mem_nil, or_false, not_or]; exact ⟨b1, b2⟩) (Heap.get?_push_of_some _ (Heap.get?_push_of_some _ e))
      · cases r₂ with
        | error e => exact hr₂
        | ok fl₂ =>
          cases fl₂ with
          | ret r =>
            obtain ⟨rfl, h', tk, rfl, hS, kp⟩ := hr₂
            repeat (any_goals (first | assumption | wp_step))
            exact fin _ _ hS kp
          | _ => exact hr₂.elim
    | _ => exact hr.elim

theorem txs_of : ∀ (l : List Value), (∀ v ∈ l, ∃ tk, v = Value.str (tagOf v) tk) → StrsAre l (l.map tagOf)
  | [], _ => .nil
  | v :: l, h => by
    obtain ⟨tk, e⟩ := h v List.mem_cons_self
    rw [List.map_cons]
    generalize tagOf v = x at e ⊢
    subst e
    exact .cons x tk (txs_of l fun u hu => h u (List.mem_cons_of_mem _ hu))

/-- sorted(a set of texts) -/
theorem tx_sorted {a : Addr} {l : List Str} {Q : Value → Shared → Prop} (R : TxSet P w s.heap a l) (hh : A.handled = none) (h64 : l.length < 64)
    (fin : ∀ s' p (out : Array Value) (c : Nat) (ys : List Str), (∀ b o, s.heap.get? b = some o → s'.heap.get? b = some o) → s'.gens = s.gens → s'.os = s.os → s.heap.objs.size ≤ p →
      s'.heap.get? p = some (seqObj "list" out c) → StrsAre out.toList ys → ys.Perm l → sortedS ys = true → Q (.ref p) s') :
    wpAny (model P w) A (call (.builtin "sorted") [.ref a]) Q E s := by
  obtain ⟨o, es, ep, t, ho, hex, hd, g, hp, nd, hb, hf, hr, hl⟩ := R
  refine Calls.call_function_entry kind_sorted plain_sorted entry_sorted (args_sorted1 _) ?_
  unfold Builtin.«sorted»
  refine wpAny_bind (m := checkCount "sorted" 1 1 _) (wpAny_pure ?_)
  refine wpAny_bind (collect_set (A := A.in1) hh ⟨o, ho, hex.1, hd⟩ hf hb hr hl fun s1 vs k1 hz g1 o1 pm => ?_)
  have hS : StrsAre vs (vs.map tagOf) := txs_of vs fun v hv => by
    obtain ⟨e, he, q⟩ := List.mem_map.mp (pm.mem_iff.mp hv)
    obtain ⟨tk, h1, _⟩ := g e he
    rw [← q]
    exact ⟨tk, h1⟩
  have pk : (vs.map tagOf).Perm l := by
    have q := pm.map tagOf
    rw [List.map_map] at q
    exact q.trans hp
  have hvl : vs.length = l.length := by rw [← pk.length_eq, List.length_map]
  refine wpAny_bind (wpAny_newList ?_ (by rw [hvl, sizeLine_eq]; omega))
  have hoL : (s1.heap.push (seqObj "list" vs.toArray 0)).get? s1.heap.objs.size = some (seqObj "list" vs.toArray 0) := Heap.get?_push_size _ rfl
  refine wpAny_bind (wpAny_holding (wpAny_call_entry slot_list_sort ⟨_, hoL, rfl⟩ entry_list_sort
    (list_sort_treeK strKind_oneLt hoL hS.keysOf (fun v₁ v₂ rest e => keyKind_strs (by rw [← e]; exact hS)) (by rw [hvl]; exact h64) fun st' a1 a2 => ⟨_, rfl, ?_⟩) (args_list_sort _)))
  obtain ⟨ys, b1, b2, b3⟩ := sorted_out_str hS a1 a2
  obtain ⟨c, hc⟩ := sortedHeap_at (vs := vs) (out := (arrOf st').map (·.2)) hoL
  refine wpAny_pure ⟨_, rfl, fin _ s1.heap.objs.size _ c ys (fun b u e => ?_) g1 o1 hz hc b1 (b2.trans pk) b3⟩
  have q := k1 b u e
  have hlt := Heap.lt_size q
  show (sortedHeap (s1.heap.push (seqObj "list" vs.toArray 0)) s1.heap.objs.size vs _).get? b = some u
  rw [sortedHeap_old (Nat.ne_of_lt hlt) (by rw [size_push']; exact Nat.lt_succ_of_lt hlt)]
  exact Heap.get?_push_of_some _ q
end

end L2
namespace L2
open PySem PySem.Spec PyProof.Rows
/-! over the abstract heap -/
def SetS (P : Program) (w : World) (a : Addr) (l : List Str) : HO := .ext fun h => TxSet P w h a l
section
variable {X : Cx}
def rSetS (X : Cx) : List V → Hp → VK → Prop := fun vs H Q => ∃ (a : Addr) (xs : List Str), vs = [V.ref a] ∧ (SqL X.K H a (xs.map V.str) ∨ SqT X.K H a (xs.map V.str)) ∧ xs.length + 1 < scanBound ∧
  ∀ p, H p = none → Q (.ref p) (upd H p (SetS X.prog X.w p (once [] xs)))
theorem cr_setS (hc : X.calm = true) : CallR X (.type "set") (rSetS X) := by
  intro pins s σ H vs us Q I r h
  obtain ⟨a, xs, rfl, hs, hb, q⟩ := h
  rw [Vals.ref1 r]
  have key : ∀ (h' : Heap) (tk : Nat), TxSet X.prog X.w h' s.heap.objs.size (once [] xs) → (∀ b o, s.heap.get? b = some o → h'.get? b = some o) →
      EP X pins σ Q (.ref s.heap.objs.size) { s with heap := h', toks := tk } := fun h' tk R k => by
    have hn : H s.heap.objs.size = none := I.hok.fresh (Nat.le_refl _)
    refine ⟨.ref _, _, I.laid (t' := tk) k (Nat.le_refl _) ?_, rfl, q _ hn⟩
    refine ⟨R, ?_, fun h1 h2 z kk => z.stay kk⟩
    obtain ⟨o, _, _, _, ho, _⟩ := R
    exact ⟨o, ho⟩
  rcases hs with hs | hs
  · obtain ⟨its, rv, hl, _⟩ := I.list hs
    exact tx_call_list xs (I.ok.hd hc) hl.isList rv.strs hb key
  · obtain ⟨its, rv, hl, _⟩ := I.tuple hs
    exact tx_call_tuple xs (I.ok.hd hc) (show s.heap.IsTuple a its.toArray from hl) rv.strs hb key
def rSortedSetS (X : Cx) : List V → Hp → VK → Prop := fun vs H Q => ∃ (a : Addr) (l : List Str), vs = [V.ref a] ∧ H a = some (SetS X.prog X.w a l) ∧ l.length < 64 ∧
  ∀ (ys : List Str) (p : Addr), ys.Perm l → sortedS ys = true → H p = none → Q (.ref p) (upd H p (.lst (ys.map V.str)))
theorem cr_sortedSetS (hc : X.calm = true) : CallR X (.builtin "sorted") (rSortedSetS X) := by
  intro pins s σ H vs us Q I r h
  obtain ⟨a, l, rfl, ha, h64, q⟩ := h
  have R : TxSet X.prog X.w s.heap a l := (I.hok a _ ha).1
  rw [Vals.ref1 r]
  refine tx_sorted R (I.ok.hd hc) h64 fun s' p out c ys k g o hp hg hi hs hm => ?_
  have hlen : (ys.map V.str).length ≤ sizeLine := by rw [List.length_map, hs.length_eq, sizeLine_eq]; omega
  have hn : H p = none := I.hok.fresh hp
  have J : Inv X pins σ (upd H p (.lst (ys.map V.str))) { s with heap := s'.heap, gens := s'.gens, drawn := s'.drawn, toks := s'.toks } :=
    I.call (ch := []) (Un.laid k hp hn) (I.hok.laid k hp ⟨hlen, out.toList, c, vals_of_strs hi, hg⟩) (by rw [g]; exact I.bare) (fun _ z => nomatch z)
  have e : s' = { s with heap := s'.heap, gens := s'.gens, drawn := s'.drawn, toks := s'.toks } := by
    cases s'
    cases s
    cases o
    rfl
  rw [e]
  exact ⟨.ref p, _, J, rfl, q ys p hs hm hn⟩
end
end L2
/-! what all the laws' proofs share: the list that draws, data, names -/
namespace L2
open PySem PySem.Spec PyProof.Rows
section
variable {X : Cx} {CX : CXT} {k : Nat} {f : Addr} {fd : FuncData} {ps ks : List Str} {sp : Sp} {E : XK} {x : Str} {p pos : Pos} {kws : List Keyword} {tk : TA} {g : List Value → List Value → List Value} {gV : List V → List V → List V}
/-- f(k = v, ..), no argument by place -/
theorem pe_callK0 (F : FnOk X.prog X.w X.K X.mg X.base CX k f fd ps sp) (hr : Room k X.A) (hg : Gl X x) (hm : X.mg x = some (.ref f)) (hk : PySem.W.keepIn X.K (.ref f) = true) (hb : KBinds X.K fd ps ks g gV) (hx : Passes CX X E)
    (hkw : PK X kws tk) (hall : (backToKw pos (keywordEach kws X.env)).all (·.1.isSome) = true := by rfl) (hks : (backToKw pos (keywordEach kws X.env)).filterMap (·.1) = ks := by rfl)
    (hdb : (x == ("__debug__" : Str)) = false := by decide) (hpl : ((backTo pos (starEach [] X.env)).any (·.1) || (backToKw pos (keywordEach kws X.env)).any (·.1.isNone)) = false := by rfl) :
    PE X (.Call (.Name x p) [] kws pos) (tCallK sp gV E tNil tk) := by
  refine ⟨fun pins s σ H Q I h => ?_⟩
  refine wpAny_Call_Name_kw (ld_glob I hg hm ?_ hdb)
  refine PySem.W.callWith_KW0 (h₀ := X.base) I.ok.mod.kin hk hall ?_ hpl
  refine thn (hkw.run pos pins s σ H _ I h) fun ws s2 ⟨zs, H2, I2, rz, q2⟩ => ⟨I2.kIn, ?_⟩
  rw [hks]
  exact run_fnk (us := []) (vs := []) F hr hb hx I2 .nil rz q2
end
end L2

namespace Th
open PySem PySem.Spec PyProof.Rows L2

/-! ### heaps: what stands, but for one list -/
def hid (p : Addr) (H : Hp) : Hp := fun a => if a = p then none else H a
theorem hid_ne {p a : Addr} {H : Hp} (h : a ≠ p) : hid p H a = H a := if_neg h
theorem hid_self {p : Addr} {H : Hp} : hid p H p = none := if_pos rfl
theorem hid_some {p a : Addr} {H : Hp} {o : HO} (h : hid p H a = some o) : a ≠ p ∧ H a = some o := by
  by_cases e : a = p
  · subst e
    rw [hid_self] at h
    cases h
  · rw [hid_ne e] at h
    exact ⟨e, h⟩
theorem hid_same {p : Addr} {H : Hp} : Same (hid p H) H := fun a o h => (hid_some h).2
theorem same_new {H : Hp} {p : Addr} {o : HO} (h : H p = none) : Same H (upd H p o) := fun b x e => by
  rw [upd_ne (ne_of_none e h)]
  exact e
theorem same_mut {H H' : Hp} {q : Addr} {o : HO} (e : Same H H') (h : H q = none) : Same H (upd H' q o) := fun a u ha => by
  rw [upd_ne (ne_of_none ha h)]
  exact e a u ha

/-- the list that draws: where it stands, where its script stands, the script -/
structure DS where
  p : Addr
  l : Addr
  ns : List Int
structure Drw (D : DS) (H : Hp) : Prop where
  ne : D.l ≠ D.p
  sc : H D.l = some (.lst (D.ns.map V.int))
  few : D.ns.length ≤ 63
  st : ∃ i v m c : Int, H D.p = some (.lst [.ref D.l, .int i, .int v, .int m, .int c]) ∧ 0 ≤ i ∧ 0 ≤ v ∧ 0 ≤ m ∧ m < 2147483648 ∧ 0 ≤ c
theorem Drw.new {D : DS} {H : Hp} {q : Addr} {o : HO} (d : Drw D H) (h : H q = none) : Drw D (upd H q o) := by
  obtain ⟨ne, sc, few, i, v, m, c, st, r⟩ := d
  exact ⟨ne, by rw [upd_ne (ne_of_none sc h)]; exact sc, few, i, v, m, c, by rw [upd_ne (ne_of_none st h)]; exact st, r⟩
theorem Drw.at {D : DS} {H : Hp} (d : Drw D H) : ∃ o, H D.p = some o := by
  obtain ⟨_, _, _, i, v, m, c, st, _⟩ := d
  exact ⟨_, st⟩
structure Go (D : DS) (H H' : Hp) : Prop where
  sm : Same (hid D.p H) (hid D.p H')
  st : Drw D H'
theorem Go.refl {D : DS} {H : Hp} (d : Drw D H) : Go D H H := ⟨Same.refl _, d⟩
theorem Go.trans {D : DS} {H H1 H2 : Hp} (a : Go D H H1) (b : Go D H1 H2) : Go D H H2 := ⟨a.sm.trans b.sm, b.st⟩
theorem Go.of {D : DS} {H H' : Hp} (d : Drw D H) (s : Same H H') : Go D H H' := by
  refine ⟨fun a o h => ?_, ?_⟩
  · obtain ⟨e, h⟩ := hid_some h
    rw [hid_ne e]
    exact s a o h
  · obtain ⟨ne, sc, few, i, v, m, c, st, r⟩ := d
    exact ⟨ne, s _ _ sc, few, i, v, m, c, s _ _ st, r⟩
theorem Go.new {D : DS} {H H' : Hp} {q : Addr} {o : HO} (g : Go D H H') (h : H' q = none) : Go D H (upd H' q o) := g.trans (.of g.st (same_new h))
/-- a thing that did not stand ahead may change -/
theorem Go.mut {D : DS} {H H' : Hp} {q : Addr} {o : HO} (g : Go D H H') (d : Drw D H) (h : H q = none) : Go D H (upd H' q o) := by
  have np : q ≠ D.p := fun e => by
    obtain ⟨u, hu⟩ := d.at
    rw [← e, h] at hu
    cases hu
  refine ⟨fun a u ha => ?_, ?_⟩
  · obtain ⟨e, ha'⟩ := hid_some ha
    have q1 := g.sm a u ha
    rw [hid_ne e] at q1 ⊢
    rw [upd_ne (ne_of_none ha' h)]
    exact q1
  · obtain ⟨ne, sc, few, i, v, m, c, st, r⟩ := g.st
    exact ⟨ne, by rw [upd_ne (ne_of_none d.sc h)]; exact sc, few, i, v, m, c, by rw [upd_ne np.symm]; exact st, r⟩
theorem Go.free {D : DS} {H H' : Hp} {q : Addr} (g : Go D H H') (d : Drw D H) (h : H' q = none) : H q = none := by
  cases e : H q with
  | none => rfl
  | some o =>
    by_cases z : q = D.p
    · obtain ⟨u, hu⟩ := g.st.at
      rw [← z, h] at hu
      cases hu
    · have q1 := g.sm q o (by rw [hid_ne z]; exact e)
      rw [hid_ne z, h] at q1
      cases q1
theorem Go.old {D : DS} {H H' : Hp} {q : Addr} {o : HO} (g : Go D H H') (z : q ≠ D.p) (h : H q = some o) : H' q = some o := by
  have q1 := g.sm q o (by rw [hid_ne z]; exact h)
  rw [hid_ne z] at q1
  exact q1
theorem Drw.ne_new {D : DS} {H : Hp} {q : Addr} (d : Drw D H) (h : H q = none) : q ≠ D.p := fun e => by
  obtain ⟨u, hu⟩ := d.at
  rw [← e, h] at hu
  cases hu

/-! ### data -/
mutual
inductive Da (K : PySem.W.Frag) (H : Hp) : V → PyData → Prop
  | non : Da K H .non .none
  | bl (b : Bool) : Da K H (.bl b) (.bool b)
  | int (i : Int) : Da K H (.int i) (.int i)
  | str (x : Str) : Da K H (.str x) (.str x)
  | lst {a : Addr} {xs : List V} {ds : List PyData} : SqL K H a xs → TyX K H (.ref a) (.type "list") → DaAll K H xs ds → Da K H (.ref a) (.list ds)
  | tup {a : Addr} {xs : List V} {ds : List PyData} : SqT K H a xs → TyX K H (.ref a) (.type "tuple") → DaAll K H xs ds → Da K H (.ref a) (.tuple ds)
inductive DaAll (K : PySem.W.Frag) (H : Hp) : List V → List PyData → Prop
  | nil : DaAll K H [] []
  | cons {v : V} {vs : List V} {d : PyData} {ds : List PyData} : Da K H v d → DaAll K H vs ds → DaAll K H (v :: vs) (d :: ds)
end
theorem same_rd {H H' : Hp} {a : Addr} {u : HO} (e : Same H H') (h : Rd H a u) : Rd H' a u := by
  rcases h with h | ⟨o, h⟩
  · exact .inl (e a _ h)
  · exact .inr ⟨o, e a _ h⟩
theorem same_t {K : PySem.W.Frag} {H H' : Hp} {a : Addr} {xs : List V} (e : Same H H') (h : SqT K H a xs) : SqT K H' a xs := by
  rcases h with h | h
  · exact .inl (same_rd e h)
  · exact .inr h
theorem ty_same {K : PySem.W.Frag} {H H' : Hp} {v : V} {t : Value} (e : Same H H') (h : TyX K H v t) : TyX K H' v t := by
  cases h with
  | base b =>
    refine .base ?_
    cases b with
    | non => exact .non
    | bl x => exact .bl x
    | int i => exact .int i
    | str x => exact .str x
    | flt x => exact .flt x
    | lst h => exact .lst (e _ _ h)
    | frz h => exact .frz (e _ _ h)
    | tup h => exact .tup (e _ _ h)
    | dK h => exact .dK (e _ _ h)
    | dT h => exact .dT (e _ _ h)
    | ins h cl ha hn htk hm => exact .ins (e _ _ h) cl ha hn htk hm
  | byt b => exact .byt b
  | set h => exact .set (e _ _ h)
  | kList h c => exact .kList h c
  | kTuple h c => exact .kTuple h c
  | kDict h c => exact .kDict h c
  | fTuple h => exact .fTuple (e _ _ h)
  | fDict h => exact .fDict (e _ _ h)
section
variable {K : PySem.W.Frag} {H H' : Hp}
mutual
theorem Da.mono (e : Same H H') : ∀ (d : PyData) (v : V), Da K H v d → Da K H' v d
  | .none, _, h => by
    cases h
    exact .non
  | .bool b, _, h => by
    cases h
    exact .bl b
  | .int i, _, h => by
    cases h
    exact .int i
  | .str x, _, h => by
    cases h
    exact .str x
  | .list ds, _, h => by
    cases h with
    | lst hs ht ha => exact .lst (e.seq hs) (ty_same e ht) (DaAll.mono e ds _ ha)
  | .tuple ds, _, h => by
    cases h with
    | tup hs ht ha => exact .tup (same_t e hs) (ty_same e ht) (DaAll.mono e ds _ ha)
  | .dict _, _, h => by cases h
theorem DaAll.mono (e : Same H H') : ∀ (ds : List PyData) (vs : List V), DaAll K H vs ds → DaAll K H' vs ds
  | [], _, h => by
    cases h
    exact .nil
  | d :: ds, _, h => by
    cases h with
    | cons h1 h2 => exact .cons (Da.mono e d _ h1) (DaAll.mono e ds _ h2)
end
mutual
theorem Da.dp : ∀ (d : PyData) (v : V), Da K H v d → Dp K H v d
  | .none, _, h => by
    cases h
    exact .non
  | .bool b, _, h => by
    cases h
    exact .bl b
  | .int i, _, h => by
    cases h
    exact .int i
  | .str x, _, h => by
    cases h
    exact .str x
  | .list ds, _, h => by
    cases h with
    | lst hs ht ha => exact .lst hs (DaAll.dp ds _ ha)
  | .tuple ds, _, h => by
    cases h with
    | tup hs ht ha => exact .tup hs (DaAll.dp ds _ ha)
  | .dict _, _, h => by cases h
theorem DaAll.dp : ∀ (ds : List PyData) (vs : List V), DaAll K H vs ds → DpAll K H vs ds
  | [], _, h => by
    cases h
    exact .nil
  | d :: ds, _, h => by
    cases h with
    | cons h1 h2 => exact .cons (Da.dp d _ h1) (DaAll.dp ds _ h2)
end
theorem Da.to (h : Da K H v d) (e : Same H H') : Da K H' v d := Da.mono e d v h
theorem DaAll.to (h : DaAll K H vs ds) (e : Same H H') : DaAll K H' vs ds := DaAll.mono e ds vs h
theorem DaAll.len : ∀ {vs : List V} {ds : List PyData}, DaAll K H vs ds → vs.length = ds.length
  | _, _, .nil => rfl
  | _, _, .cons _ r => congrArg Nat.succ r.len
theorem DaAll.at : ∀ {vs : List V} {ds : List PyData} {i : Nat} {v : V}, DaAll K H vs ds → vs[i]? = some v → ∃ d, ds[i]? = some d ∧ Da K H v d
  | _, _, _, _, .nil, h => by simp at h
  | _, _, 0, v, .cons h _, e => ⟨_, rfl, by simp at e; rw [← e]; exact h⟩
  | _, _, i + 1, v, .cons _ r, e => by
    simp only [List.getElem?_cons_succ] at e
    obtain ⟨d, h1, h2⟩ := r.at e
    exact ⟨d, by simpa using h1, h2⟩
theorem DaAll.at' {vs : List V} {ds : List PyData} {i : Nat} {d : PyData} (h : DaAll K H vs ds) (e : ds[i]? = some d) : ∃ v, vs[i]? = some v ∧ Da K H v d := by
  obtain ⟨hi, _⟩ := List.getElem?_eq_some_iff.mp e
  have hv : i < vs.length := by rw [h.len]; exact hi
  obtain ⟨d', e', q⟩ := h.at (List.getElem?_eq_getElem hv)
  rw [e] at e'
  cases e'
  exact ⟨_, List.getElem?_eq_getElem hv, q⟩
theorem DaAll.app : ∀ {vs ws : List V} {ds es : List PyData}, DaAll K H vs ds → DaAll K H ws es → DaAll K H (vs ++ ws) (ds ++ es)
  | _, _, _, _, .nil, r => r
  | _, _, _, _, .cons h t, r => .cons h (t.app r)
theorem DaAll.take : ∀ {vs : List V} {ds : List PyData} (n : Nat), DaAll K H vs ds → DaAll K H (vs.take n) (ds.take n)
  | _, _, 0, _ => .nil
  | _, _, n + 1, .nil => .nil
  | _, _, n + 1, .cons h t => .cons h (t.take n)
theorem DaAll.drop : ∀ {vs : List V} {ds : List PyData} (n : Nat), DaAll K H vs ds → DaAll K H (vs.drop n) (ds.drop n)
  | _, _, 0, h => h
  | _, _, n + 1, .nil => .nil
  | _, _, n + 1, .cons h t => t.drop n
theorem DaAll.strs : ∀ xs : List Str, DaAll K H (xs.map V.str) (xs.map PyData.str)
  | [] => .nil
  | x :: r => .cons (.str x) (DaAll.strs r)
theorem DaAll.bls : ∀ xs : List Bool, DaAll K H (xs.map V.bl) (xs.map PyData.bool)
  | [] => .nil
  | x :: r => .cons (.bl x) (DaAll.bls r)
/-- a value of data that is all texts: the texts -/
theorem DaAll.isStrs : ∀ {vs : List V} {xs : List Str}, DaAll K H vs (xs.map PyData.str) → vs = xs.map V.str
  | _, [], h => by
    cases h
    rfl
  | _, x :: r, h => by
    cases h with
    | cons h1 h2 =>
      cases h1
      rw [h2.isStrs]
      rfl
theorem Da.newT {H : Hp} {q : Addr} {xs : List V} {ds : List PyData} (h : H q = some (.tup xs)) (r : DaAll K H xs ds) : Da K H (.ref q) (.tuple ds) := .tup (.inl (.inl h)) (.base (.tup h)) r
theorem Da.newL {H : Hp} {q : Addr} {xs : List V} {ds : List PyData} (h : H q = some (.lst xs)) (r : DaAll K H xs ds) : Da K H (.ref q) (.list ds) := .lst (.inl (.inl h)) (.base (.lst h)) r
end
/-- the class of a datum -/
def tyD : PyData → String
  | .none => "NoneType" | .bool _ => "bool" | .int _ => "int" | .str _ => "str" | .list _ => "list" | .tuple _ => "tuple" | .dict _ => "dict"
theorem Da.ty {K : PySem.W.Frag} {H : Hp} {v : V} {d : PyData} (h : Da K H v d) : TyX K H v (.type (tyD d)) := by
  cases h with
  | non => exact .base .non
  | bl b => exact .base (.bl b)
  | int i => exact .base (.int i)
  | str x => exact .base (.str x)
  | lst _ t _ => exact t
  | tup _ t _ => exact t
theorem kit_str (d : PyData) (h : tyD d ≠ "dict") : kitB (tyD d) "str" = some (decide (tyD d = "str")) := by
  cases d with
  | none => exact (by decide +kernel : kitB "NoneType" "str" = some (decide ("NoneType" = "str")))
  | bool b => exact (by decide +kernel : kitB "bool" "str" = some (decide ("bool" = "str")))
  | int i => exact (by decide +kernel : kitB "int" "str" = some (decide ("int" = "str")))
  | str x => exact (by decide +kernel : kitB "str" "str" = some (decide ("str" = "str")))
  | list xs => exact (by decide +kernel : kitB "list" "str" = some (decide ("list" = "str")))
  | tuple xs => exact (by decide +kernel : kitB "tuple" "str" = some (decide ("tuple" = "str")))
  | dict kvs => exact absurd rfl h
theorem kit_int (d : PyData) (h : tyD d ≠ "dict") : kitB (tyD d) "int" = some (decide (tyD d = "int" ∨ tyD d = "bool")) := by
  cases d with
  | none => exact (by decide +kernel : kitB "NoneType" "int" = some (decide ("NoneType" = "int" ∨ "NoneType" = "bool")))
  | bool b => exact (by decide +kernel : kitB "bool" "int" = some (decide ("bool" = "int" ∨ "bool" = "bool")))
  | int i => exact (by decide +kernel : kitB "int" "int" = some (decide ("int" = "int" ∨ "int" = "bool")))
  | str x => exact (by decide +kernel : kitB "str" "int" = some (decide ("str" = "int" ∨ "str" = "bool")))
  | list xs => exact (by decide +kernel : kitB "list" "int" = some (decide ("list" = "int" ∨ "list" = "bool")))
  | tuple xs => exact (by decide +kernel : kitB "tuple" "int" = some (decide ("tuple" = "int" ∨ "tuple" = "bool")))
  | dict kvs => exact absurd rfl h
theorem kit_bool (d : PyData) (h : tyD d ≠ "dict") : kitB (tyD d) "bool" = some (decide (tyD d = "bool")) := by
  cases d with
  | none => exact (by decide +kernel : kitB "NoneType" "bool" = some (decide ("NoneType" = "bool")))
  | bool b => exact (by decide +kernel : kitB "bool" "bool" = some (decide ("bool" = "bool")))
  | int i => exact (by decide +kernel : kitB "int" "bool" = some (decide ("int" = "bool")))
  | str x => exact (by decide +kernel : kitB "str" "bool" = some (decide ("str" = "bool")))
  | list xs => exact (by decide +kernel : kitB "list" "bool" = some (decide ("list" = "bool")))
  | tuple xs => exact (by decide +kernel : kitB "tuple" "bool" = some (decide ("tuple" = "bool")))
  | dict kvs => exact absurd rfl h
theorem kit_list (d : PyData) (h : tyD d ≠ "dict") : kitB (tyD d) "list" = some (decide (tyD d = "list")) := by
  cases d with
  | none => exact (by decide +kernel : kitB "NoneType" "list" = some (decide ("NoneType" = "list")))
  | bool b => exact (by decide +kernel : kitB "bool" "list" = some (decide ("bool" = "list")))
  | int i => exact (by decide +kernel : kitB "int" "list" = some (decide ("int" = "list")))
  | str x => exact (by decide +kernel : kitB "str" "list" = some (decide ("str" = "list")))
  | list xs => exact (by decide +kernel : kitB "list" "list" = some (decide ("list" = "list")))
  | tuple xs => exact (by decide +kernel : kitB "tuple" "list" = some (decide ("tuple" = "list")))
  | dict kvs => exact absurd rfl h
theorem kit_tuple (d : PyData) (h : tyD d ≠ "dict") : kitB (tyD d) "tuple" = some (decide (tyD d = "tuple")) := by
  cases d with
  | none => exact (by decide +kernel : kitB "NoneType" "tuple" = some (decide ("NoneType" = "tuple")))
  | bool b => exact (by decide +kernel : kitB "bool" "tuple" = some (decide ("bool" = "tuple")))
  | int i => exact (by decide +kernel : kitB "int" "tuple" = some (decide ("int" = "tuple")))
  | str x => exact (by decide +kernel : kitB "str" "tuple" = some (decide ("str" = "tuple")))
  | list xs => exact (by decide +kernel : kitB "list" "tuple" = some (decide ("list" = "tuple")))
  | tuple xs => exact (by decide +kernel : kitB "tuple" "tuple" = some (decide ("tuple" = "tuple")))
  | dict kvs => exact absurd rfl h
theorem Da.nodict {K : PySem.W.Frag} {H : Hp} {v : V} {d : PyData} (h : Da K H v d) : tyD d ≠ "dict" := by
  cases h with
  | non => exact (by decide : ("NoneType" : String) ≠ "dict")
  | bl b => exact (by decide : ("bool" : String) ≠ "dict")
  | int i => exact (by decide : ("int" : String) ≠ "dict")
  | str x => exact (by decide : ("str" : String) ≠ "dict")
  | lst _ _ _ => exact (by decide : ("list" : String) ≠ "dict")
  | tup _ _ _ => exact (by decide : ("tuple" : String) ≠ "dict")
end Th
namespace Th
open PySem PySem.Spec PyProof.Rows L2
/-! ### a def that stands at a name of the text and keeps a promise -/
/-- the built-in names are still the built-ins -/
structure Zs (mg : Str → Option Value) : Prop where
  len_ : mg "len" = none
  range_ : mg "range" = none
  int_ : mg "int" = none
  abs_ : mg "abs" = none
  isinstance_ : mg "isinstance" = none
  all_ : mg "all" = none
  any_ : mg "any" = none
  sorted_ : mg "sorted" = none
  set_ : mg "set" = none
  list_ : mg "list" = none
  tuple_ : mg "tuple" = none
  str_ : mg "str" = none
  bool_ : mg "bool" = none
  enumerate_ : mg "enumerate" = none
  min_ : mg "min" = none
  max_ : mg "max" = none
def At (K : PySem.W.Frag) (mg : Str → Option Value) (x : Str) (st : Stmt) (ps : List Str) : Prop :=
  ∃ (f : Addr) (fd : FuncData), Fun K x x st f fd ∧ mg x = some (.ref f) ∧ Binds K fd ps []
def Has (P : Program) (w : World) (K : PySem.W.Frag) (mg : Str → Option Value) (base : Heap) (x : Str) (st : Stmt) (k : Nat) (ps : List Str) (sp : Sp) : Prop :=
  ∃ (f : Addr) (fd : FuncData), FnOk P w K mg base CX0 k f fd ps sp ∧ mg x = some (.ref f) ∧ PySem.W.keepIn K (.ref f) = true ∧ Binds K fd ps [] ∧ Fun K x x st f fd
theorem kb_of {K : PySem.W.Frag} {x qual : Str} {st : Stmt} {f : Addr} {fd : FuncData} {ps ks : List Str} {g : List Value → List Value → List Value} {gV : List V → List V → List V} (F : Fun K x qual st f fd)
    (hrel : ∀ {vs : List V} {us : List Value} {zs : List V} {ws : List Value}, Vals vs us → Vals zs ws → Vals (gV vs zs) (g us ws))
    (h : ∀ (kV doc pm : Value) (an : Option Addr) (cdv ct : Value) (us ws : List Value), (g us ws).length = ps.length → bindArgs (PySem.W.fnOf x qual (defArgs st) (defBody st) (defScope st) .none kV doc pm an cdv ct) ⟨us, ks.zip ws⟩ = pure (ps.zip (g us ws))) :
    KBinds K fd ps ks g gV := by
  obtain ⟨oc, od, kV, doc, pm, an, cdv, ct, osl, rfl, lk, hcd⟩ := F.ex
  exact ⟨fun s us ws X hl => .of_eq (h kV doc pm an cdv ct us ws hl), fun r1 r2 => hrel r1 r2⟩
/-- one argument, by its name -/
def g1 {α : Type} : List α → List α → List α
  | [], [a] => [a]
  | _, _ => []
theorem g1_rel {vs : List V} {us : List Value} {zs : List V} {ws : List Value} (r1 : Vals vs us) (r2 : Vals zs ws) : Vals (g1 vs zs) (g1 us ws) := by
  cases r1 with
  | nil =>
    cases r2 with
    | nil => exact .nil
    | cons r r2 =>
      cases r2 with
      | nil => exact .cons r .nil
      | cons _ _ => exact .nil
  | cons _ _ =>
    cases r2 <;> exact .nil
/-- two arguments by their names, in the other order -/
def g2 {α : Type} : List α → List α → List α
  | [], [a, b] => [b, a]
  | _, _ => []
theorem g2_rel {vs : List V} {us : List Value} {zs : List V} {ws : List Value} (r1 : Vals vs us) (r2 : Vals zs ws) : Vals (g2 vs zs) (g2 us ws) := by
  cases r1 with
  | nil =>
    cases r2 with
    | nil => exact .nil
    | cons r r2 =>
      cases r2 with
      | nil => exact .nil
      | cons q r3 =>
        cases r3 with
        | nil => exact .cons q (.cons r .nil)
        | cons _ _ => exact .nil
  | cons _ _ =>
    cases r2 <;> exact .nil

/-! ### small facts of lists -/
theorem cut_none (xs : List V) (h : xs.length ≤ 63) : cutV xs none (some 63) = xs := by
  unfold cutV
  rw [HT.sIx_none, show HT.sIx xs.length xs.length (some 63) = min 63 xs.length from HT.sIx_nat xs.length xs.length 63]
  show List.take (min 63 xs.length - 0) (List.drop 0 xs) = xs
  rw [List.drop_zero, Nat.sub_zero, Nat.min_eq_right h, List.take_length]
theorem getmap {α β : Type} {f : α → β} {l : List α} {i : Nat} {y : β} (h : (l.map f)[i]? = some y) : ∃ x, l[i]? = some x ∧ f x = y := by
  rw [List.getElem?_map] at h
  cases e : l[i]? with
  | none =>
    rw [e] at h
    cases h
  | some x =>
    rw [e] at h
    exact ⟨x, rfl, Option.some.inj h⟩
theorem lt_of_get {α : Type} {l : List α} {i : Nat} {y : α} (h : l[i]? = some y) : i < l.length := (List.getElem?_eq_some_iff.mp h).1
theorem sline {n : Nat} (h : n ≤ 100000) : n ≤ sizeLine := Nat.le_trans h (by decide)
theorem slineL {n : Nat} (h : n < 100000) : n < sizeLine := Nat.lt_of_lt_of_le h (by decide)
theorem take_succ_map {α β : Type} {f : α → β} {l : List α} {i : Nat} {x : α} (h : l[i]? = some x) : ((l.take (i + 1)).map f) = (l.take i).map f ++ [f x] := by
  rw [List.take_add_one, h, List.map_append]
  rfl
theorem atI_of {xs : List V} {i : Int} {v : V} (h0 : 0 ≤ i) (h : xs[i.toNat]? = some v) : atI xs i = some v := by
  have e : i = ((i.toNat : Nat) : Int) := by omega
  rw [e]
  exact atI_nat h
end Th
namespace Th
def sgE (a b k : Nat) : Nat := (a + b * k % 26) % 26 + 26 * (k / 26)
theorem sgE_nodup : ∀ a, a < 26 → ∀ b ∈ [1, 3, 5, 7, 9, 11, 25], ((List.range 40).map (sgE a b)).Nodup := by decide +kernel
end Th
/-! texts and names -/
namespace Th
open PySem PySem.Spec PyProof.Rows L2
theorem nodup_at {α : Type} {l : List α} (h : l.Nodup) {i j : Nat} {x : α} (hi : l[i]? = some x) (hj : l[j]? = some x) : i = j := by
  obtain ⟨li, ei⟩ := List.getElem?_eq_some_iff.mp hi
  obtain ⟨lj, ej⟩ := List.getElem?_eq_some_iff.mp hj
  have q := List.pairwise_iff_getElem.mp h
  rcases Nat.lt_trichotomy i j with z | z | z
  · exact absurd (ei.trans ej.symm) (q i j li lj z)
  · exact z
  · exact absurd (ej.trans ei.symm) (q j i lj li z)
theorem nodup_sub {α : Type} [DecidableEq α] : ∀ {l m : List α}, l.Nodup → (∀ x ∈ l, x ∈ m) → l.length ≤ m.length
  | [], _, _, _ => Nat.zero_le _
  | x :: r, m, h, k => by
    obtain ⟨h1, h2⟩ := List.nodup_cons.mp h
    have hx := k x List.mem_cons_self
    have q : r.length ≤ (m.erase x).length := nodup_sub h2 fun y hy => by
      have ne : y ≠ x := fun e => h1 (e ▸ hy)
      exact (List.mem_erase_of_ne ne).mpr (k y (List.mem_cons_of_mem _ hy))
    rw [List.length_erase_of_mem hx] at q
    have p := List.length_pos_of_mem hx
    rw [List.length_cons]
    omega
def cs (x : Str) : List Nat := x.cps.toList
theorem cs_len (x : Str) : x.length = (cs x).length := (Array.length_toList).symm
theorem cs_inj {x y : Str} (h : cs x = cs y) : x = y := by
  cases x
  cases y
  exact congrArg Str.mk (Array.toList_inj.mp h)
theorem cs_app (x y : Str) : cs (x ++ y) = cs x ++ cs y := by
  show (x.cps ++ y.cps).toList = _
  rw [Array.toList_append]
  rfl
theorem cs_mk (l : List Nat) : cs ⟨l.toArray⟩ = l := rfl
theorem cs_join : ∀ ys : List Str, cs (Str.join Str.empty ys) = (ys.map cs).flatten
  | [] => rfl
  | [x] => by simp [Str.join]
  | x :: y :: r => by
    show cs (x ++ Str.empty ++ Str.join Str.empty (y :: r)) = _
    rw [cs_app, cs_app, cs_join (y :: r)]
    show cs x ++ [] ++ _ = _
    rw [List.append_nil]
    rfl
/-- the small letters -/
def abc : Str := "abcdefghijklmnopqrstuvwxyz"
theorem abc_len : (cs abc).length = 26 := by decide +kernel
theorem abc_nodup : (cs abc).Nodup := by decide +kernel
theorem abc_length : abc.length = 26 := by decide +kernel
/-- all signs are small letters -/
def Lw (x : Str) : Prop := ∀ c ∈ cs x, c ∈ cs abc
theorem Lw.app {x y : Str} (h : Lw x) (k : Lw y) : Lw (x ++ y) := fun c hc => by
  rw [cs_app] at hc
  rcases List.mem_append.mp hc with z | z
  · exact h c z
  · exact k c z
theorem Lw.sub {x y : Str} (h : Lw x) (k : ∀ c ∈ cs y, c ∈ cs x) : Lw y := fun c hc => h c (k c hc)
/-- a name -/
def isNm (x : Str) : Bool := decide (1 ≤ x.length) && decide (x.length ≤ 6) && (cs x).all fun c => decide (c ∈ cs abc)
theorem isNm_iff {x : Str} : isNm x = true ↔ 1 ≤ x.length ∧ x.length ≤ 6 ∧ Lw x := by
  unfold isNm
  rw [Bool.and_eq_true, Bool.and_eq_true, decide_eq_true_eq, decide_eq_true_eq, List.all_eq_true]
  constructor
  · rintro ⟨⟨a, b⟩, c⟩
    exact ⟨a, b, fun z hz => of_decide_eq_true (c z hz)⟩
  · rintro ⟨a, b, c⟩
    exact ⟨⟨a, b⟩, fun z hz => decide_eq_true (c z hz)⟩
theorem isNm_len {x : Str} (h : isNm x = true) : x.length ≤ 6 := (isNm_iff.mp h).2.1
/-- the k-th letter -/
def let_ (k : Nat) : Nat := (cs abc).getD k 0
theorem let_at {k : Nat} (h : k < 26) : (cs abc)[k]? = some (let_ k) := by
  have h' : k < (cs abc).length := by rw [abc_len]; exact h
  unfold let_
  rw [List.getD_eq_getElem?_getD, List.getElem?_eq_getElem h']
  rfl
theorem let_mem {k : Nat} (h : k < 26) : let_ k ∈ cs abc := List.mem_of_getElem? (let_at h)
theorem let_inj {i j : Nat} (hi : i < 26) (hj : j < 26) (h : let_ i = let_ j) : i = j := by
  have a := let_at hi
  have b := let_at hj
  rw [h] at a
  exact nodup_at abc_nodup a b
theorem atI_of' {xs : List Nat} {i : Int} {v : Nat} (h0 : 0 ≤ i) (h : xs[i.toNat]? = some v) : atI xs i = some v := by
  have e : i = ((i.toNat : Nat) : Int) := by omega
  rw [e]
  exact atI_nat h
theorem atI_let {k : Int} (h0 : 0 ≤ k) (h1 : k < 26) : atI abc.cps.toList k = some (let_ k.toNat) := atI_of' (xs := (cs abc)) h0 (let_at (by omega))
theorem sline_abc : abc.length ≤ sizeLine := by rw [abc_length]; decide
theorem sqh {K : PySem.W.Frag} {p q : Addr} {H : Hp} {xs : List V} (z : q ≠ p) (h : H q = some (.lst xs)) : SqL K (hid p H) q xs := .inl (.inl (by rw [hid_ne z]; exact h))
theorem sqhT {K : PySem.W.Frag} {p q : Addr} {H : Hp} {xs : List V} (z : q ≠ p) (h : H q = some (.tup xs)) : SqT K (hid p H) q xs := .inl (.inl (by rw [hid_ne z]; exact h))
theorem flatS (xs : List Str) : (xs.map V.str).all flatV = true := by
  rw [List.all_map, List.all_eq_true]
  exact fun _ _ => rfl
theorem inS (x : Str) (xs : List Str) : inV (.str x) (xs.map V.str) = decide (x ∈ xs) := by
  unfold inV
  rw [List.any_map, Bool.eq_iff_iff, List.any_eq_true, decide_eq_true_eq]
  constructor
  · rintro ⟨y, hy, e⟩
    have e' : y = x := beq_iff_eq.mp (show (y == x) = true from e)
    rw [← e']
    exact hy
  · intro hx
    exact ⟨x, hx, beq_self_eq_true x⟩
/-- len of a list or a tuple, by values -/
def rLn (K : PySem.W.Frag) : List V → Hp → VK → Prop := fun xs H Q => ∃ p ys, xs = [.ref p] ∧ (SqL K H p ys ∨ SqT K H p ys) ∧ Q (.int ys.length) H
theorem len_seqK {X : Cx} : CallR X (.builtin "len") (rLn X.K) := call_len_seq
theorem ixe (a b i : Nat) : ((a : Int) + ((b : Int) * ((0 : Int) + (i : Int))) % 26) % 26 = (((a + b * i % 26) % 26 : Nat) : Int) := by
  have e : (b : Int) * ((0 : Int) + (i : Int)) = ((b * i : Nat) : Int) := by rw [Int.zero_add, Int.natCast_mul]
  rw [e]
  omega
theorem stride_of {i : Nat} {v : V} (h : [V.int 1, .int 3, .int 5, .int 7, .int 9, .int 11, .int 25][i]? = some v) : ∃ b : Nat, b ∈ [1, 3, 5, 7, 9, 11, 25] ∧ b ≤ 25 ∧ v = .int (b : Int) := by
  have m := List.mem_of_getElem? h
  simp only [List.mem_cons, List.not_mem_nil, or_false] at m
  rcases m with e | e | e | e | e | e | e
  · exact ⟨1, by decide, by decide, e⟩
  · exact ⟨3, by decide, by decide, e⟩
  · exact ⟨5, by decide, by decide, e⟩
  · exact ⟨7, by decide, by decide, e⟩
  · exact ⟨9, by decide, by decide, e⟩
  · exact ⟨11, by decide, by decide, e⟩
  · exact ⟨25, by decide, by decide, e⟩
/-- the first letters of the signs -/
def sg1 (a b k : Nat) : Str := ⟨#[let_ ((a + b * k % 26) % 26)]⟩
theorem mapr {α : Type} (f : Nat → α) (n : Nat) : (List.range (n + 1)).map f = (List.range n).map f ++ [f n] := by
  rw [List.range_succ, List.map_append]
  rfl
theorem getr {α : Type} (f : Nat → α) {n k : Nat} (h : k < n) : ((List.range n).map f)[k]? = some (f k) := by
  rw [List.getElem?_map, List.getElem?_range h]
  rfl
def strV (v : V) : Str := match v with | .str x => x | _ => Str.empty
theorem perm_strs {ys : List V} {xs : List Str} (h : ys.Perm (xs.map V.str)) : ∃ zs : List Str, ys = zs.map V.str ∧ zs.Perm xs := by
  refine ⟨ys.map strV, ?_, ?_⟩
  · rw [List.map_map]
    refine (List.map_id ys).symm.trans (List.map_congr_left fun v hv => ?_)
    obtain ⟨x, _, rfl⟩ := List.mem_map.mp (h.mem_iff.mp hv)
    rfl
  · have q := h.map strV
    rw [List.map_map] at q
    have e : xs.map (strV ∘ V.str) = xs := (List.map_congr_left fun _ _ => rfl).trans (List.map_id xs)
    rw [e] at q
    exact q
theorem cut_to {n : Int} (xs : List V) (h : 0 ≤ n) : cutV xs none (some n) = xs.take n.toNat := by
  have e : n = ((n.toNat : Nat) : Int) := by omega
  unfold cutV
  rw [HT.sIx_none, e, HT.sIx_nat, List.drop_zero, Nat.sub_zero, Int.toNat_natCast, Nat.min_def]
  split
  · rfl
  · rw [List.take_length, List.take_of_length_le (by omega)]
/-! slices of texts -/
theorem cs_cut (z : Str) (lo hi : Option Int) : cs (cutS z lo hi) = ((cs z).drop (HT.sIx z.length 0 lo)).take (HT.sIx z.length z.length hi - HT.sIx z.length 0 lo) := rfl
theorem cs_cut_to (z : Str) (n : Int) (h : 0 ≤ n) : cs (cutS z none (some n)) = (cs z).take n.toNat := by
  have e : n = ((n.toNat : Nat) : Int) := by omega
  rw [cs_cut, HT.sIx_none, e, HT.sIx_nat, List.drop_zero, Nat.sub_zero, Int.toNat_natCast, Nat.min_def]
  split
  · rfl
  · rename_i hn
    rw [cs_len, List.take_length, List.take_of_length_le (by rw [← cs_len]; omega)]
theorem cs_cut_from (z : Str) (n : Int) (h : 0 ≤ n) (h2 : n ≤ z.length) : cs (cutS z (some n) none) = (cs z).drop n.toNat := by
  have e : n = ((n.toNat : Nat) : Int) := by omega
  rw [cs_cut, HT.sIx_none, e, HT.sIx_nat, Int.toNat_natCast, Nat.min_eq_left (by omega)]
  rw [cs_len, ← List.length_drop, List.take_length]
/-! the signs of names: the letter at (first + stride * k % 26) % 26, and a second one from 26 on -/
def sgn (a b : Nat) (k : Nat) : Str := ⟨#[let_ ((a + b * k % 26) % 26)]⟩ ++ (if k < 26 then Str.empty else ⟨#[let_ (k / 26)]⟩)
theorem sgn_cs (a b k : Nat) : cs (sgn a b k) = let_ ((a + b * k % 26) % 26) :: (if k < 26 then [] else [let_ (k / 26)]) := by
  unfold sgn
  rw [cs_app]
  split <;> rfl
theorem sgn_len (a b k : Nat) : (sgn a b k).length = if k < 26 then 1 else 2 := by
  rw [cs_len, sgn_cs]
  split <;> rfl
theorem sgn_lw (a b : Nat) {k : Nat} (h : k < 40) : Lw (sgn a b k) := by
  intro c hc
  rw [sgn_cs] at hc
  rcases List.mem_cons.mp hc with z | z
  · rw [z]
    exact let_mem (Nat.mod_lt _ (by decide))
  · split at z
    · cases z
    · rw [List.mem_singleton.mp z]
      exact let_mem (by omega)
theorem sgn_inj {a b i j : Nat} (ha : a < 26) (hb : b ∈ [1, 3, 5, 7, 9, 11, 25]) (hi : i < 40) (hj : j < 40) (h : sgn a b i = sgn a b j) : i = j := by
  have e : sgE a b i = sgE a b j := by
    have q := congrArg cs h
    rw [sgn_cs, sgn_cs] at q
    injection q with q1 q2
    have q3 := let_inj (Nat.mod_lt _ (by decide)) (Nat.mod_lt _ (by decide)) q1
    unfold sgE
    rw [q3]
    have q4 : i / 26 = j / 26 := by
      by_cases h1 : i < 26
      · by_cases h2 : j < 26
        · omega
        · rw [if_pos h1, if_neg h2] at q2
          cases q2
      · by_cases h2 : j < 26
        · rw [if_neg h1, if_pos h2] at q2
          cases q2
        · rw [if_neg h1, if_neg h2] at q2
          injection q2 with q5
          exact let_inj (by omega) (by omega) q5
    rw [q4]
  have nd := sgE_nodup a ha b hb
  have g1 : ((List.range 40).map (sgE a b))[i]? = some (sgE a b i) := by
    rw [List.getElem?_map, List.getElem?_range hi]
    rfl
  have g2 : ((List.range 40).map (sgE a b))[j]? = some (sgE a b j) := by
    rw [List.getElem?_map, List.getElem?_range hj]
    rfl
  rw [e] at g1
  exact nodup_at nd g1 g2
def sgns (a b n : Nat) : List Str := (List.range n).map (sgn a b)
theorem sgns_nodup {a b n : Nat} (ha : a < 26) (hb : b ∈ [1, 3, 5, 7, 9, 11, 25]) (hn : n ≤ 40) : (sgns a b n).Nodup := by
  unfold sgns
  rw [List.Nodup, List.pairwise_map]
  refine List.Pairwise.imp_of_mem ?_ List.nodup_range
  intro i j hi hj hne e
  exact hne (sgn_inj ha hb (by have := List.mem_range.mp hi; omega) (by have := List.mem_range.mp hj; omega) e)
theorem sgns_len (a b n : Nat) : (sgns a b n).length = n := by
  unfold sgns
  rw [List.length_map, List.length_range]
theorem sgns_mem {a b n : Nat} {x : Str} (hn : n ≤ 40) (h : x ∈ sgns a b n) : 1 ≤ x.length ∧ x.length ≤ 2 ∧ Lw x := by
  obtain ⟨k, hk, rfl⟩ := List.mem_map.mp h
  have hk' : k < n := List.mem_range.mp hk
  rw [sgn_len]
  refine ⟨?_, ?_, sgn_lw a b (by omega)⟩
  · split <;> omega
  · split <;> omega
/-- the words that stand in texts too -/
def kno : List Str := ["find", "finds", "word", "fact", "before", "first", "last", "lot", "never", "all", "rest", "self"]
theorem kno_nodup : kno.Nodup := by decide +kernel
theorem kno_ok : ∀ x ∈ kno, isNm x = true ∧ 3 ≤ x.length := by decide +kernel
theorem kno_len : kno.length = 12 := rfl
/-- names: each once -/
def Nms (xs : List Str) : Prop := xs.Nodup ∧ ∀ x ∈ xs, isNm x = true
theorem nms_known {ys : List Str} {a b n : Nat} (ha : a < 26) (hb : b ∈ [1, 3, 5, 7, 9, 11, 25]) (hn : n ≤ 40) (h : ys.Perm kno) (m : Nat) : Nms ((ys ++ sgns a b n).take m) := by
  have nd : (ys ++ sgns a b n).Nodup := by
    rw [List.nodup_append]
    refine ⟨h.nodup_iff.mpr kno_nodup, sgns_nodup ha hb hn, fun x hx y hy e => ?_⟩
    have q1 := (kno_ok x (h.mem_iff.mp hx)).2
    have q2 := (sgns_mem hn hy).2.1
    rw [e] at q1
    omega
  refine ⟨nd.sublist (List.take_sublist _ _), fun x hx => ?_⟩
  rcases List.mem_append.mp (List.mem_of_mem_take hx) with z | z
  · exact (kno_ok x (h.mem_iff.mp z)).1
  · obtain ⟨q1, q2, q3⟩ := sgns_mem hn z
    exact isNm_iff.mpr ⟨q1, by omega, q3⟩
/-- names by a stem around a sign -/
def stm (w : Str) (i : Nat) (s : Str) : Str := ⟨((cs w).take i).toArray⟩ ++ s ++ ⟨((cs w).drop i).toArray⟩
theorem stm_cs (w : Str) (i : Nat) (s : Str) : cs (stm w i s) = (cs w).take i ++ cs s ++ (cs w).drop i := by
  unfold stm
  rw [cs_app, cs_app]
  rfl
theorem stm_eq {w s : Str} {i : Int} (h0 : 0 ≤ i) (h1 : i ≤ w.length) : cutS w none (some i) ++ s ++ cutS w (some i) none = stm w i.toNat s := by
  refine cs_inj ?_
  rw [cs_app, cs_app, cs_cut_to _ _ h0, cs_cut_from _ _ h0 h1, stm_cs]
theorem nms_stem {w : Str} {i a b n : Nat} (hw : Lw w) (hl : w.length ≤ 4) (ha : a < 26) (hb : b ∈ [1, 3, 5, 7, 9, 11, 25]) (hn : n ≤ 40) : Nms ((sgns a b n).map (stm w i)) := by
  refine ⟨?_, fun x hx => ?_⟩
  · rw [List.Nodup, List.pairwise_map]
    refine List.Pairwise.imp ?_ (sgns_nodup ha hb hn)
    intro x y hne e
    have q := congrArg cs e
    rw [stm_cs, stm_cs] at q
    exact hne (cs_inj (List.append_cancel_left (List.append_cancel_right q)))
  · obtain ⟨s, hs, rfl⟩ := List.mem_map.mp hx
    obtain ⟨q1, q2, q3⟩ := sgns_mem hn hs
    rw [cs_len] at q1 q2 hl
    refine isNm_iff.mpr ⟨?_, ?_, fun c hc => ?_⟩
    · rw [cs_len, stm_cs, List.length_append, List.length_append]; omega
    · rw [cs_len, stm_cs, List.length_append, List.length_append, List.length_take, List.length_drop]; omega
    · rw [stm_cs] at hc
      rcases List.mem_append.mp hc with z | z
      · rcases List.mem_append.mp z with z | z
        · exact hw c (List.mem_of_mem_take z)
        · exact q3 c z
      · exact hw c (List.mem_of_mem_drop z)
theorem nm_word {x : Str} (h : Lw x) (h1 : 1 ≤ x.length) (h2 : (x.length : Int) ≤ 6) : isNm x = true := isNm_iff.mpr ⟨h1, by omega, h⟩
theorem nm_long {x y : Str} (h : isNm x = true) (k : Lw y) : isNm (cutS (x ++ y) none (some 6)) = true := by
  obtain ⟨h1, h2, h3⟩ := isNm_iff.mp h
  have e : cs (cutS (x ++ y) none (some 6)) = (cs (x ++ y)).take 6 := cs_cut_to _ 6 (by decide)
  rw [cs_len] at h1
  refine isNm_iff.mpr ⟨?_, ?_, fun c hc => ?_⟩
  · rw [cs_len, e, List.length_take, cs_app, List.length_append]
    omega
  · rw [cs_len, e, List.length_take]
    omega
  · rw [e] at hc
    exact h3.app k c (List.mem_of_mem_take hc)
/-- one name more -/
theorem Nms.snoc {xs : List Str} {x : Str} (h : Nms xs) (hx : isNm x = true) (n : x ∉ xs) : Nms (xs ++ [x]) := by
  refine ⟨?_, fun y hy => ?_⟩
  · rw [List.nodup_append]
    exact ⟨h.1, List.pairwise_singleton _ _, fun a ha b hb e => n (by rw [← List.mem_singleton.mp hb, ← e]; exact ha)⟩
  · rcases List.mem_append.mp hy with z | z
    · exact h.2 y z
    · rw [List.mem_singleton.mp z]
      exact hx
/-- a sign is left while there are fewer names than signs -/
theorem spare_left {xs ss : List Str} (h : ss.Nodup) (hl : xs.length < ss.length) : ∃ s r, ss.filter (fun s => !decide (s ∈ xs)) = s :: r := by
  cases e : ss.filter (fun s => !decide (s ∈ xs)) with
  | cons s r => exact ⟨s, r, rfl⟩
  | nil =>
    exfalso
    have all : ∀ s ∈ ss, s ∈ xs := fun s hs => by
      have q := List.filter_eq_nil_iff.mp e s hs
      simpa using q
    have sub := nodup_sub h all
    omega
end Th
/-! data that is written in the text, and data judged -/
namespace Th
open PySem PySem.Spec PyProof.Rows L2
def Lit (K : PySem.W.Frag) (t : TE) (d : PyData) : Prop := ∀ (D : DS) (σ : L2.St) (H : Hp) (Q : VK), Drw D H → (∀ v H', Go D H H' → Da K (hid D.p H') v d → Q v H') → t σ H Q
def LitA (K : PySem.W.Frag) (t : TA) (ds : List PyData) : Prop := ∀ (D : DS) (σ : L2.St) (H : Hp) (Q : List V → Hp → Prop), Drw D H → (∀ vs H', Go D H H' → DaAll K (hid D.p H') vs ds → Q vs H') → t σ H Q
section
variable {K : PySem.W.Frag}
theorem lit_non : Lit K (tC .non) .none := fun D σ H Q d q => q _ H (.refl d) .non
theorem lit_bl (b : Bool) : Lit K (tC (.bl b)) (.bool b) := fun D σ H Q d q => q _ H (.refl d) (.bl b)
theorem lit_int (i : Int) : Lit K (tC (.int i)) (.int i) := fun D σ H Q d q => q _ H (.refl d) (.int i)
theorem lit_neg (i : Int) : Lit K (tUn (rU fun i => .int (-i)) (tC (.int i))) (.int (-i)) := fun D σ H Q d q => ⟨i, rfl, q _ H (.refl d) (.int (-i))⟩
theorem lit_str (x : Str) : Lit K (tC (.str x)) (.str x) := fun D σ H Q d q => q _ H (.refl d) (.str x)
theorem lita_nil : LitA K tNil [] := fun D σ H Q d q => q _ H (.refl d) .nil
theorem lita_cons {t : TE} {d : PyData} {ta : TA} {ds : List PyData} (h : Lit K t d) (r : LitA K ta ds) : LitA K (tCons t ta) (d :: ds) := fun D σ H Q dr q =>
  h D σ H _ dr fun v H1 g1 h1 => r D σ H1 _ g1.st fun vs H2 g2 h2 => q _ H2 (g1.trans g2) (.cons (h1.to g2.sm) h2)
theorem lit_tup {ta : TA} {ds : List PyData} (h : LitA K ta ds) (hl : ds.length ≤ 100000) : Lit K (tTup ta) (.tuple ds) := fun D σ H Q dr q =>
  h D σ H _ dr fun vs H1 g1 h1 => ⟨sline (by rw [h1.len]; exact hl), fun p np => by
    have z := g1.st.ne_new np
    have g2 := g1.new (o := .tup vs) np
    refine q _ _ g2 (Da.newT (by rw [hid_ne z]; exact upd_same) (h1.to (Go.of g1.st (same_new np)).sm))⟩
theorem lit_lst {ta : TA} {ds : List PyData} (h : LitA K ta ds) (hl : ds.length ≤ 100000) : Lit K (tLst ta) (.list ds) := fun D σ H Q dr q =>
  h D σ H _ dr fun vs H1 g1 h1 => ⟨sline (by rw [h1.len]; exact hl), fun p np => by
    have z := g1.st.ne_new np
    have g2 := g1.new (o := .lst vs) np
    refine q _ _ g2 (Da.newL (by rw [hid_ne z]; exact upd_same) (h1.to (Go.of g1.st (same_new np)).sm))⟩
/-- the datum that an expression of constants, tuples and lists writes -/
def litE : Nat → Expr → Option PyData
  | _, .Constant .none _ _ => some .none
  | _, .Constant (.bool b) _ _ => some (.bool b)
  | _, .Constant (.int i) _ _ => some (.int i)
  | _, .Constant (.str x) _ _ => some (.str x)
  | _, .UnaryOp .USub (.Constant (.int i) _ _) _ => some (.int (-i))
  | n + 1, .Tuple es _ _ => (litEs (litE n) es).bind fun ds => if ds.length ≤ 1000 then some (.tuple ds) else none
  | n + 1, .List es _ => (litEs (litE n) es).bind fun ds => if ds.length ≤ 1000 then some (.list ds) else none
  | _, _ => none
where litEs (f : Expr → Option PyData) : List Expr → Option (List PyData)
  | [] => some []
  | e :: es => (f e).bind fun d => (litEs f es).map (d :: ·)
def NoStar (X : Cx) (e : Expr) : Prop := ∀ es, starEach (e :: es) X.env = (false, eval e X.env) :: starEach es X.env
theorem litEs_ok {X : Cx} {f : Expr → Option PyData} (hf : ∀ e d, f e = some d → ∃ t, PE X e t ∧ Lit K t d ∧ NoStar X e) : ∀ (es : List Expr) (ds : List PyData), litE.litEs f es = some ds → ∃ t, PA X es t ∧ LitA K t ds
  | [], ds, h => by
    cases h
    exact ⟨_, pa_nil, lita_nil⟩
  | e :: es, ds, h => by
    unfold litE.litEs at h
    cases h1 : f e with
    | none =>
      rw [h1] at h
      cases h
    | some d =>
      rw [h1] at h
      cases h2 : litE.litEs f es with
      | none =>
        rw [h2] at h
        cases h
      | some r =>
        rw [h2] at h
        cases h
        obtain ⟨t, a1, a2, a3⟩ := hf e d h1
        obtain ⟨u, b1, b2⟩ := litEs_ok hf es r h2
        exact ⟨_, pa_cons a1 b1 (a3 es), lita_cons a2 b2⟩
theorem litE_ok {X : Cx} : ∀ (n : Nat) (e : Expr) (d : PyData), litE n e = some d → ∃ t, PE X e t ∧ Lit K t d ∧ NoStar X e := by
  intro n
  induction n with
  | zero =>
    intro e d h
    unfold litE at h
    split at h
    · cases h; exact ⟨_, pe_non, lit_non, fun _ => rfl⟩
    · cases h; exact ⟨_, pe_bl, lit_bl _, fun _ => rfl⟩
    · cases h; exact ⟨_, pe_int, lit_int _, fun _ => rfl⟩
    · cases h; exact ⟨_, pe_str, lit_str _, fun _ => rfl⟩
    · cases h; exact ⟨_, pe_un un_neg pe_int, lit_neg _, fun _ => rfl⟩
    all_goals first | (exfalso; omega) | cases h
  | succ n ih =>
    intro e d h
    unfold litE at h
    split at h
    · cases h; exact ⟨_, pe_non, lit_non, fun _ => rfl⟩
    · cases h; exact ⟨_, pe_bl, lit_bl _, fun _ => rfl⟩
    · cases h; exact ⟨_, pe_int, lit_int _, fun _ => rfl⟩
    · cases h; exact ⟨_, pe_str, lit_str _, fun _ => rfl⟩
    · cases h; exact ⟨_, pe_un un_neg pe_int, lit_neg _, fun _ => rfl⟩
    · rename_i m es x1 p he
      obtain rfl := Nat.succ.inj he
      cases h1 : litE.litEs (litE n) es with
      | none => rw [h1] at h; cases h
      | some ds =>
        rw [h1] at h
        simp only [Option.bind_some] at h
        split at h
        · cases h
          obtain ⟨t, b1, b2⟩ := litEs_ok ih es ds h1
          exact ⟨_, pe_tup b1, lit_tup b2 (by omega), fun _ => rfl⟩
        · cases h
    · rename_i m es p he
      obtain rfl := Nat.succ.inj he
      cases h1 : litE.litEs (litE n) es with
      | none => rw [h1] at h; cases h
      | some ds =>
        rw [h1] at h
        simp only [Option.bind_some] at h
        split at h
        · cases h
          obtain ⟨t, b1, b2⟩ := litEs_ok ih es ds h1
          exact ⟨_, pe_lst b1, lit_lst b2 (by omega), fun _ => rfl⟩
        · cases h
    · cases h
/-- what a list of data holds -/
theorem Da.inL {H : Hp} {p : Addr} {ds : List PyData} (h : Da K H (.ref p) (.list ds)) : ∃ xs, SqL K H p xs ∧ DaAll K H xs ds := by
  cases h with
  | lst hs _ ha => exact ⟨_, hs, ha⟩
theorem Da.inT {H : Hp} {p : Addr} {ds : List PyData} (h : Da K H (.ref p) (.tuple ds)) : ∃ xs, SqT K H p xs ∧ DaAll K H xs ds := by
  cases h with
  | tup hs _ ha => exact ⟨_, hs, ha⟩
end
theorem kit_lt {K : PySem.W.Frag} (d : PyData) (h : tyD d ≠ "dict") : PySem.W.kitAny K (.type (tyD d)) [.type "list", .type "tuple"] = some (decide (tyD d = "list" ∨ tyD d = "tuple")) := by
  by_cases e1 : tyD d = "list"
  · refine kitAny_cons (kit_ty (kit_list d h)) (fun z => ?_) (fun _ => ?_)
    · rw [decide_eq_true e1] at z
      cases z
    · exact decide_eq_true (.inl e1)
  · refine kitAny_cons (kit_ty (kit_list d h)) (fun _ => ?_) (fun z => absurd (of_decide_eq_true z) e1)
    refine kitAny_cons (kit_ty (kit_tuple d h)) (fun z => ?_) (fun z => decide_eq_true (.inr (of_decide_eq_true z)))
    rw [kitAny_nil, decide_eq_false]
    rintro (q | q)
    · exact e1 q
    · exact of_decide_eq_false z q
/-- depth below n, sizes small -/
def Lv : Nat → PyData → Prop
  | _, .none => True
  | _, .bool _ => True
  | _, .int _ => True
  | _, .str x => x.length ≤ 100000 ∧ PyData.strOk x = true
  | 0, .list _ => False
  | 0, .tuple _ => False
  | n + 1, .list xs => xs.length ≤ 60 ∧ ∀ x ∈ xs, Lv n x
  | n + 1, .tuple xs => xs.length ≤ 60 ∧ ∀ x ∈ xs, Lv n x
  | _, .dict _ => False
def lvB : Nat → PyData → Bool
  | _, .none => true
  | _, .bool _ => true
  | _, .int _ => true
  | _, .str x => decide (x.length ≤ 100000) && PyData.strOk x
  | 0, .list _ => false
  | 0, .tuple _ => false
  | n + 1, .list xs => decide (xs.length ≤ 60) && xs.all (lvB n)
  | n + 1, .tuple xs => decide (xs.length ≤ 60) && xs.all (lvB n)
  | _, .dict _ => false
theorem lv_of : ∀ (n : Nat) (d : PyData), lvB n d = true → Lv n d
  | 0, .none, _ => trivial
  | 0, .bool _, _ => trivial
  | 0, .int _, _ => trivial
  | 0, .str x, h => by
    obtain ⟨a, b⟩ := Bool.and_eq_true_iff.mp h
    exact ⟨of_decide_eq_true a, b⟩
  | 0, .list _, h => nomatch h
  | 0, .tuple _, h => nomatch h
  | 0, .dict _, h => nomatch h
  | n + 1, .none, _ => trivial
  | n + 1, .bool _, _ => trivial
  | n + 1, .int _, _ => trivial
  | n + 1, .str x, h => by
    obtain ⟨a, b⟩ := Bool.and_eq_true_iff.mp h
    exact ⟨of_decide_eq_true a, b⟩
  | n + 1, .list xs, h => by
    obtain ⟨a, b⟩ := Bool.and_eq_true_iff.mp h
    exact ⟨of_decide_eq_true a, fun x hx => lv_of n x (List.all_eq_true.mp b x hx)⟩
  | n + 1, .tuple xs, h => by
    obtain ⟨a, b⟩ := Bool.and_eq_true_iff.mp h
    exact ⟨of_decide_eq_true a, fun x hx => lv_of n x (List.all_eq_true.mp b x hx)⟩
  | n + 1, .dict _, h => nomatch h
theorem Lv.up : ∀ (n : Nat) (d : PyData), Lv n d → Lv (n + 1) d
  | 0, .none, _ => trivial
  | 0, .bool _, _ => trivial
  | 0, .int _, _ => trivial
  | 0, .str x, h => h
  | 0, .list _, h => h.elim
  | 0, .tuple _, h => h.elim
  | 0, .dict _, h => h.elim
  | n + 1, .none, _ => trivial
  | n + 1, .bool _, _ => trivial
  | n + 1, .int _, _ => trivial
  | n + 1, .str x, h => h
  | n + 1, .list xs, h => ⟨h.1, fun x hx => Lv.up n x (h.2 x hx)⟩
  | n + 1, .tuple xs, h => ⟨h.1, fun x hx => Lv.up n x (h.2 x hx)⟩
  | n + 1, .dict _, h => h.elim
mutual
theorem Lv.shape : ∀ (n : Nat) (d : PyData), Lv n d → d.canLay0 = true ∧ d.depth ≤ n
  | 0, .none, _ => ⟨by simp only [PyData.canLay0], by simp [PyData.depth]⟩
  | 0, .bool _, _ => ⟨by simp only [PyData.canLay0], by simp [PyData.depth]⟩
  | 0, .int _, _ => ⟨by simp only [PyData.canLay0], by simp [PyData.depth]⟩
  | 0, .str x, h => ⟨by simp only [PyData.canLay0]; exact h.2, by simp [PyData.depth]⟩
  | 0, .list _, h => h.elim
  | 0, .tuple _, h => h.elim
  | 0, .dict _, h => h.elim
  | n + 1, .none, _ => ⟨by simp only [PyData.canLay0], by simp [PyData.depth]⟩
  | n + 1, .bool _, _ => ⟨by simp only [PyData.canLay0], by simp [PyData.depth]⟩
  | n + 1, .int _, _ => ⟨by simp only [PyData.canLay0], by simp [PyData.depth]⟩
  | n + 1, .str x, h => ⟨by simp only [PyData.canLay0]; exact h.2, by simp [PyData.depth]⟩
  | n + 1, .list xs, h => by
    obtain ⟨a, b⟩ := Lv.shapes n xs h.2
    exact ⟨by simp only [PyData.canLay0]; exact a, by simp only [PyData.depth]; omega⟩
  | n + 1, .tuple xs, h => by
    obtain ⟨a, b⟩ := Lv.shapes n xs h.2
    exact ⟨by simp only [PyData.canLay0]; exact a, by simp only [PyData.depth]; omega⟩
  | n + 1, .dict _, h => h.elim
theorem Lv.shapes : ∀ (n : Nat) (xs : List PyData), (∀ x ∈ xs, Lv n x) → PyData.canLayAll0 xs = true ∧ PyData.depthAll xs ≤ n
  | n, [], _ => ⟨by simp only [PyData.canLayAll0], by simp [PyData.depthAll]⟩
  | n, x :: xs, h => by
    obtain ⟨a, b⟩ := Lv.shape n x (h x List.mem_cons_self)
    obtain ⟨c, e⟩ := Lv.shapes n xs fun y hy => h y (List.mem_cons_of_mem _ hy)
    exact ⟨by simp only [PyData.canLayAll0, a, c, Bool.and_self], by simp only [PyData.depthAll]; omega⟩
end
theorem Lv.shaped {n : Nat} {d : PyData} (h : Lv n d) (hn : n ≤ 64) : SeqAt.shaped d = true := by
  obtain ⟨a, b⟩ := Lv.shape n d h
  unfold SeqAt.shaped
  rw [a, decide_eq_true (by omega)]
  rfl
theorem strOk_lw {x : Str} (h : Lw x) : PyData.strOk x = true := by
  unfold PyData.strOk
  rw [Array.all_eq_true']
  intro c hc
  have q := h c (by unfold cs; exact Array.mem_toList_iff.mpr hc)
  have all : ∀ c ∈ cs abc, c < 0x110000 := by decide +kernel
  exact decide_eq_true (all c q)
theorem lv_nm {n : Nat} {x : Str} (h : isNm x = true) : Lv n (.str x) := by
  obtain ⟨h1, h2, h3⟩ := isNm_iff.mp h
  have q : x.length ≤ 100000 ∧ PyData.strOk x = true := ⟨by omega, strOk_lw h3⟩
  cases n <;> exact q
/-- a datum is a name -/
def nmD : PyData → Bool
  | .str x => isNm x
  | _ => false
/-- data that comes now and then -/
def odds : List PyData := [.none, .bool true, .bool false, .int 0, .int 1, .int (-1), .int 30, .int 999999999, .str "", .str "a", .str "A", .str "ab1", .str "abcdefg", .str "a b", .str "a\n", .str "{", .tuple [], .list [], .tuple [.str "a"], .list [.str "a"],
  .tuple [.str "b", .str "a"], .tuple [.str "a", .str "a"], .tuple [.str "a", .int 1], .tuple [.none], .tuple [.bool true], .tuple [.tuple [.str "a"]], .list [.list [.str "a"]], .tuple [.str "a", .list [.str "a"]], .tuple [.str "a", .str ""], .tuple [.str "a", .str "B"],
  .list [.str "a", .tuple [.str "a"]], .tuple [.str "a", .tuple [.str "b", .str "a"]], .tuple [.str "a", .tuple []], .tuple [.str "a", .list []], .tuple [.int 1, .tuple [.str "a"]]]
theorem odds_lv : ∀ d ∈ odds, Lv 2 d := by
  have h : odds.all (lvB 2) = true := by decide +kernel
  exact fun d hd => lv_of 2 d (List.all_eq_true.mp h d hd)
/-- one deeper -/
def LvN : Nat → PyData → Prop
  | 0, _ => False
  | n + 1, d => Lv n d
theorem lvn_list {n : Nat} {xs : List PyData} (h : Lv n (.list xs)) : xs.length ≤ 60 ∧ ∀ x ∈ xs, LvN n x := by
  cases n with
  | zero => exact h.elim
  | succ n => exact h
theorem lvn_tuple {n : Nat} {xs : List PyData} (h : Lv n (.tuple xs)) : xs.length ≤ 60 ∧ ∀ x ∈ xs, LvN n x := by
  cases n with
  | zero => exact h.elim
  | succ n => exact h
theorem da_two {K : PySem.W.Frag} {H : Hp} {v u : V} {d : PyData} {k : Nat} (hv : Da K H v d) (hu : Da K H u d) (h : tyD d = "list" ∨ tyD d = "tuple") (lv : Lv k d) :
    ∃ p r xs ys ds, v = .ref p ∧ u = .ref r ∧ (SqL K H p xs ∨ SqT K H p xs) ∧ (SqL K H r ys ∨ SqT K H r ys) ∧ DaAll K H xs ds ∧ DaAll K H ys ds ∧ ds.length ≤ 60 ∧ ∀ x ∈ ds, LvN k x := by
  cases d with
  | list ds =>
    cases hv with
    | lst h1 _ h2 =>
      cases hu with
      | lst g1 _ g2 => exact ⟨_, _, _, _, ds, rfl, rfl, .inl h1, .inl g1, h2, g2, (lvn_list lv).1, (lvn_list lv).2⟩
  | tuple ds =>
    cases hv with
    | tup h1 _ h2 =>
      cases hu with
      | tup g1 _ g2 => exact ⟨_, _, _, _, ds, rfl, rfl, .inr h1, .inr g1, h2, g2, (lvn_tuple lv).1, (lvn_tuple lv).2⟩
  | none => rcases h with h | h <;> exact absurd h (by decide)
  | bool b => rcases h with h | h <;> exact absurd (show ("bool" : String) = _ from h) (by decide)
  | int b => rcases h with h | h <;> exact absurd (show ("int" : String) = _ from h) (by decide)
  | str b => rcases h with h | h <;> exact absurd (show ("str" : String) = _ from h) (by decide)
  | dict b => cases hv
theorem ix_any {K : PySem.W.Frag} {H : Hp} {p : Addr} {xs : List V} {i : Nat} {v : V} {Q : VK} (h : SqL K H p xs ∨ SqT K H p xs) (e : xs[i]? = some v) (q : Q v H) : rIx K (.ref p) (.int ((0 : Int) + (i : Int))) H Q := by
  have a : atI xs ((0 : Int) + (i : Int)) = some v := by
    rw [Int.zero_add]
    exact atI_nat e
  rcases h with h | h
  · exact .inl ⟨p, xs, _, v, rfl, rfl, h, a, q⟩
  · exact .inr (.inl ⟨p, xs, _, v, rfl, rfl, h, a, q⟩)
theorem sq_any {K : PySem.W.Frag} {H H' : Hp} {p : Addr} {xs : List V} (s : Same H H') (h : SqL K H p xs ∨ SqT K H p xs) : SqL K H' p xs ∨ SqT K H' p xs := h.imp s.seq (same_t s)
/-- a judge of one datum, that changes nothing -/
def spJ (K : PySem.W.Frag) (n : Nat) (j : PyData → Bool) : Sp := fun vs H Q _ => ∃ (v : V) (d : PyData), vs = [v] ∧ Da K H v d ∧ Lv n d ∧ ∀ H', Same H H' → Q (.bl (j d)) H'
end Th
/-! texts in order, lots, statements -/
namespace Th
open PySem PySem.Spec PyProof.Rows L2
/-- x stands behind y or is y -/
def leS (x y : Str) : Prop := ¬ cs y < cs x
theorem ltCps_iff (x y : Str) : ltCps x.cps.toList y.cps.toList = decide (cs x < cs y) := by
  first | rfl | (rw [ltCps_eq]; rfl) | exact ltCps_eq ..
theorem rising_pair : ∀ (r : List Str) (p : Str), risingS p r = true → (p :: r).Pairwise leS
  | [], p, _ => List.pairwise_singleton _ _
  | x :: r, p, h => by
    have h' : (!ltCps x.cps.toList p.cps.toList && risingS x r) = true := h
    obtain ⟨a, b⟩ := Bool.and_eq_true_iff.mp h'
    have a' : leS p x := by
      rw [ltCps_iff] at a
      intro z
      rw [decide_eq_true z] at a
      cases a
    have ih := rising_pair r x b
    refine List.pairwise_cons.mpr ⟨fun y hy => ?_, ih⟩
    rcases List.mem_cons.mp hy with e | hy
    · rw [e]; exact a'
    · have q := (List.pairwise_cons.mp ih).1 y hy
      intro z
      have t1 := Std.lt_of_lt_of_le z (Std.not_lt.mp a')
      exact q t1
theorem sorted_pair {l : List Str} (h : sortedS l = true) : l.Pairwise leS := by
  cases l with
  | nil => exact List.Pairwise.nil
  | cons x r => exact rising_pair r x h
theorem leS_anti {x y : Str} (a : leS x y) (b : leS y x) : x = y := cs_inj (Std.le_antisymm (Std.not_lt.mp a) (Std.not_lt.mp b))
/-- one list in order has these members -/
theorem sorted_one : ∀ {l m : List Str}, l.Perm m → l.Pairwise leS → m.Pairwise leS → l = m
  | [], m, p, _, _ => (List.nil_perm.mp p).symm
  | x :: l, [], p, _, _ => (List.perm_nil.mp p)
  | x :: l, y :: m, p, h, k => by
    obtain ⟨h1, h2⟩ := List.pairwise_cons.mp h
    obtain ⟨k1, k2⟩ := List.pairwise_cons.mp k
    have e : x = y := by
      rcases List.mem_cons.mp (p.mem_iff.mp (List.mem_cons_self (a := x) (l := l))) with e | hx
      · exact e
      · rcases List.mem_cons.mp (p.mem_iff.mpr (List.mem_cons_self (a := y) (l := m))) with e | hy
        · exact e.symm
        · exact leS_anti (h1 y hy) (k1 x hx)
    subst e
    rw [sorted_one (List.perm_cons _ |>.mp p) h2 k2]
/-- each below the next -/
def risB : List Str → Bool
  | x :: y :: r => decide (cs x < cs y) && risB (y :: r)
  | _ => true
theorem ris_pair : ∀ {l : List Str}, risB l = true → l.Pairwise (fun x y => cs x < cs y)
  | [], _ => List.Pairwise.nil
  | [x], _ => List.pairwise_singleton _ _
  | x :: y :: r, h => by
    obtain ⟨a, b⟩ := Bool.and_eq_true_iff.mp (show (decide (cs x < cs y) && risB (y :: r)) = true from h)
    have ih := ris_pair b
    have a' := of_decide_eq_true a
    refine List.pairwise_cons.mpr ⟨fun z hz => ?_, ih⟩
    rcases List.mem_cons.mp hz with e | hz
    · rw [e]; exact a'
    · exact Std.lt_trans a' ((List.pairwise_cons.mp ih).1 z hz)
theorem pair_ris : ∀ {l : List Str}, l.Pairwise (fun x y => cs x < cs y) → risB l = true
  | [], _ => rfl
  | [x], _ => rfl
  | x :: y :: r, h => by
    obtain ⟨h1, h2⟩ := List.pairwise_cons.mp h
    show (decide (cs x < cs y) && risB (y :: r)) = true
    rw [decide_eq_true (h1 y List.mem_cons_self), pair_ris h2]
    rfl
theorem ris_nodup {l : List Str} (h : risB l = true) : l.Nodup := (ris_pair h).imp fun {x y} a e => by
  rw [e] at a
  exact Std.lt_irrefl a
theorem ris_le {l : List Str} (h : risB l = true) : l.Pairwise leS := (ris_pair h).imp fun {x y} a z => Std.lt_irrefl (Std.lt_trans a z)
theorem once_perm {xs : List Str} (h : xs.Nodup) : (once [] xs).Perm xs := by
  refine (List.perm_ext_iff_of_nodup (once_nodup xs [] List.nodup_nil) h).mpr fun y => ?_
  rw [once_mem]
  simp
/-- the texts in order, each once, are the texts themselves exactly if each is below the next -/
theorem lot_iff {xs ys : List Str} (p : ys.Perm (once [] xs)) (s : sortedS ys = true) : xs = ys ↔ risB xs = true := by
  constructor
  · intro e
    rw [e]
    have nd : ys.Nodup := p.nodup_iff.mpr (once_nodup xs [] List.nodup_nil)
    refine pair_ris ?_
    refine List.Pairwise.imp_of_mem (R := fun x y => leS x y ∧ x ≠ y) ?_ ((sorted_pair s).and nd)
    intro x y _ _ ⟨a, b⟩
    rcases Std.lt_trichotomy (cs x) (cs y) with z | z | z
    · exact z
    · exact absurd (cs_inj z) b
    · exact absurd z a
  · intro h
    exact sorted_one ((once_perm (ris_nodup h)).symm.trans p.symm) (ris_le h) (sorted_pair s)

def strD : PyData → Str
  | .str x => x
  | _ => Str.empty
theorem nmD_str {d : PyData} (h : nmD d = true) : d = .str (strD d) := by
  cases d <;> first | rfl | cases h
theorem nms_strs : ∀ {ds : List PyData}, ds.all nmD = true → ds = (ds.map strD).map .str
  | [], _ => rfl
  | d :: ds, h => by
    obtain ⟨a, b⟩ := Bool.and_eq_true_iff.mp (show (nmD d && ds.all nmD) = true from h)
    rw [List.map_cons, List.map_cons, ← nms_strs b, ← nmD_str a]
/-- a datum is a lot -/
def lotD : PyData → Bool
  | .tuple ds => !ds.isEmpty && ds.all nmD && risB (ds.map strD)
  | _ => false
theorem lotD_tup (ds : List PyData) : lotD (.tuple ds) = (!ds.isEmpty && ds.all nmD && risB (ds.map strD)) := rfl
def eqS : PyData → Str → Bool
  | .str y, x => y == x
  | _, _ => false
theorem eqv_str (d : PyData) (x : Str) : PyData.eqv d (.str x) = eqS d x := by
  cases d <;> simp [PyData.eqv, eqS]
theorem eqS_iff {d : PyData} {x : Str} : eqS d x = true ↔ d = .str x := by
  cases d <;> simp [eqS]
theorem eqv_strs : ∀ xs ys : List Str, PyData.eqvAll (xs.map .str) (ys.map .str) = decide (xs = ys)
  | [], [] => by simp [PyData.eqvAll]
  | [], _ :: _ => by simp [PyData.eqvAll]
  | _ :: _, [] => by simp [PyData.eqvAll]
  | x :: xs, y :: ys => by
    rw [List.map_cons, List.map_cons]
    have e : PyData.eqvAll (PyData.str x :: xs.map .str) (PyData.str y :: ys.map .str) = (PyData.eqv (.str x) (.str y) && PyData.eqvAll (xs.map .str) (ys.map .str)) := by simp [PyData.eqvAll]
    rw [e, eqv_strs xs ys, eqv_str, Bool.eq_iff_iff, Bool.and_eq_true, eqS_iff]
    simp
/-- a datum is a statement -/
def stD : PyData → Bool
  | .tuple (.str h :: r) => if h = "lot" then (r.length == 1 && r.all lotD) else if h = "before" then (r.length == 2 && r.all nmD) else (decide (h = "never") && r.isEmpty)
  | _ => false
theorem lv_head {n : Nat} {d : PyData} {r : List PyData} (h : Lv (n + 1) (.tuple (d :: r))) : Lv n d := h.2 d List.mem_cons_self
theorem lv_in {n : Nat} {ds : List PyData} {d : PyData} (h : Lv (n + 1) (.tuple ds)) (m : d ∈ ds) : Lv n d := h.2 d m
theorem lv_lot {n : Nat} {xs : List Str} (h : ∀ x ∈ xs, isNm x = true) (hl : xs.length ≤ 60) : Lv (n + 1) (.tuple (xs.map .str)) :=
  ⟨by rw [List.length_map]; exact hl, fun x hx => by
    obtain ⟨y, hy, rfl⟩ := List.mem_map.mp hx
    exact lv_nm (h y hy)⟩
theorem lv_lotL {n : Nat} {xs : List Str} (h : ∀ x ∈ xs, isNm x = true) (hl : xs.length ≤ 60) : Lv (n + 1) (.list (xs.map .str)) :=
  ⟨by rw [List.length_map]; exact hl, fun x hx => by
    obtain ⟨y, hy, rfl⟩ := List.mem_map.mp hx
    exact lv_nm (h y hy)⟩
theorem scan_small {n : Nat} (h : n ≤ 1000) : n + 1 < scanBound := by
  unfold scanBound
  omega
end Th
namespace Th
open PySem PySem.Spec PyProof.Rows L2
theorem kp {H : Hp} {l q : Addr} {o u : HO} (h : H l = some o) (hq : H q = none) : (upd H q u) l = some o := by
  rw [upd_ne (ne_of_none h hq)]
  exact h
/-- a part of data is data -/
theorem DaAll.cut {K : PySem.W.Frag} {H : Hp} {vs : List V} {ds : List PyData} (h : DaAll K H vs ds) (lo hi : Option Int) : ∃ es, DaAll K H (cutV vs lo hi) es ∧ (∀ e ∈ es, e ∈ ds) ∧ es.length ≤ ds.length := by
  unfold cutV
  refine ⟨_, (h.drop _).take _, fun e he => List.mem_of_mem_drop (List.mem_of_mem_take he), ?_⟩
  rw [List.length_take, List.length_drop]
  omega
theorem lv_snoc {n : Nat} {a b : List PyData} (h : ∀ d ∈ a, Lv n d) (k : ∀ d ∈ b, Lv n d) : ∀ d ∈ a ++ b, Lv n d := fun d hd => by
  rcases List.mem_append.mp hd with z | z
  · exact h d z
  · exact k d z
theorem lv_one {n : Nat} {d : PyData} (h : Lv n d) : ∀ e ∈ [d], Lv n e := fun e he => by
  rw [List.mem_singleton.mp he]
  exact h
theorem cutL {xs : List V} {ds : List PyData} {lo hi : Option Int} (h : xs.length = ds.length) : (cutV xs lo hi).length ≤ ds.length := by
  rw [← h]
  exact cutV_length xs lo hi
theorem cut_strs (zs : List Str) (lo hi : Option Int) : ∃ ws : List Str, cutV (zs.map V.str) lo hi = ws.map V.str ∧ (∀ x ∈ ws, x ∈ zs) ∧ ws.length ≤ zs.length := by
  unfold cutV
  refine ⟨(zs.drop (HT.sIx (zs.map V.str).length 0 lo)).take (HT.sIx (zs.map V.str).length (zs.map V.str).length hi - HT.sIx (zs.map V.str).length 0 lo), ?_, fun x hx => List.mem_of_mem_drop (List.mem_of_mem_take hx), ?_⟩
  · rw [List.map_take, List.map_drop]
  · rw [List.length_take, List.length_drop]
    omega
theorem lv_names {xs : List Str} (h : ∀ x ∈ xs, isNm x = true) (n : Nat) : ∀ d ∈ xs.map PyData.str, Lv n d := fun d hd => by
  obtain ⟨x, hx, rfl⟩ := List.mem_map.mp hd
  exact lv_nm (h x hx)
theorem lv_word (n : Nat) (x : Str) (h : PyData.strOk x = true) (h2 : x.length ≤ 100000) : Lv n (.str x) := by
  cases n <;> exact ⟨h2, h⟩
theorem Lv.ups {n m : Nat} {d : PyData} (h : Lv n d) (k : n ≤ m) : Lv m d := by
  induction k with
  | refl => exact h
  | step _ ih => exact ih.up
end Th
/-! a dict of the text with a few words as keys -/
namespace Th
open PySem PySem.Spec PyProof.Rows L2
/-- what a dict of the text holds at a word -/
def lookE : List (Str × Value) → Str → Option Value
  | [], _ => none
  | (k, v) :: r, z => if k = z then some v else lookE r z
theorem ns_of {K : PySem.W.Frag} {d : Addr} {c : Value} {od : Option Addr} {n : Nat} {sl : Array (Option Value)} : ∀ (es : List DictEntry) (kvs : List (Str × Value)), K.lookup d = some ⟨c, od, .dict es.toArray n, sl⟩ →
    Paired (fun (e : DictEntry) (p : Str × Value) => (∃ t, e.key = .str p.1 t) ∧ e.val = p.2) es kvs → ∀ z : Str, PySem.W.nsIn K d z = some (lookE kvs z) := by
  intro es kvs l p z
  unfold PySem.W.nsIn
  rw [l]
  show (match es.find? (fun e => e.key.isStr z) with | some e => some (some e.val) | none => if es.any (·.refKey) then none else some none) = some (lookE kvs z)
  have hno : es.any (·.refKey) = false := by
    clear l
    induction p with
    | nil => rfl
    | cons h _ ih =>
      obtain ⟨⟨t, e⟩, _⟩ := h
      rw [List.any_cons, ih, Bool.or_false]
      simp only [DictEntry.refKey, e]
  rw [hno]
  clear hno l
  induction p with
  | nil => rfl
  | @cons e q es kvs h _ ih =>
    obtain ⟨⟨t, e1⟩, e2⟩ := h
    obtain ⟨k, v⟩ := q
    rw [List.find?_cons]
    have hs : e.key.isStr z = decide (k = z) := by
      rw [PySem.W.isStr_of, e1]
      show Value.isStrOf z (.str k t) = _
      simp only [Value.isStrOf]
      rw [Bool.eq_iff_iff, beq_iff_eq, decide_eq_true_eq]
    rw [hs]
    unfold lookE
    by_cases hk : k = z
    · rw [decide_eq_true hk, if_pos hk]
      show some (some e.val) = _
      rw [e2]
    · rw [decide_eq_false hk, if_neg hk]
      exact ih
end Th
namespace Th
open PySem PySem.Spec PyProof.Rows L2
def rKd (K : PySem.W.Frag) (d : Addr) : R2 := fun x y H Q => ∃ (z : Str) (u0 : Value) (v0 : V), x = .ref d ∧ y = .str z ∧ PySem.W.nsIn K d z = some (some u0) ∧ RelV v0 u0 ∧ Q v0 H
def rInKd (K : PySem.W.Frag) (d : Addr) : R2 := fun x y H Q => ∃ (z : Str) (r : Option Value), x = .str z ∧ y = .ref d ∧ PySem.W.nsIn K d z = some r ∧ Q (.bl r.isSome) H
theorem ix_kd {X : Cx} {d : Addr} {es : Array DictEntry} {n : Nat} (D : KDict X.K X.w d es n) : IxR X (rKd X.K d) := by
  intro value slice pins s σ H x y v u Q I rx ry h hs
  have key := op_item_kd D pins s σ H x y v u Q I rx ry h
  obtain ⟨z, u0, v0, rfl, rfl, _⟩ := h
  cases rx
  exact tail_any (kd_type D I) PySem.F.slot_dict_getitem.lookup key hs
end Th
/-! a tuple read backwards -/
namespace Th
open PySem PySem.Spec PyProof.Rows L2 HT
section
variable {prog : Program} {w : World} {A : Around} {E : Value → Shared → Prop} {s : Shared}
theorem adj_rev (n : Nat) : Builtin.Slice.sliceAdjust none none (-1) (n : Int) = ((n : Int) - 1, -1) := by
  unfold Builtin.Slice.sliceAdjust
  simp
theorem places_rev (n : Nat) : Builtin.Slice.slicePlaces ((n : Int) - 1) (-1) (-1) = n := by
  unfold Builtin.Slice.slicePlaces
  have h1 : ¬ ((-1 : Int) > 0) := by decide
  rw [if_neg h1]
  by_cases h : (n : Int) - 1 > -1
  · rw [if_pos h, show (- -1 : Int) = 1 by decide, Int.ediv_one]
    omega
  · rw [if_neg h]
    omega
theorem applied_rev {sl : Addr} {vl vu vs : Value} {n : Nat} {Q : Int × Int × Nat → Shared → Prop} (hs : s.heap.IsSliceOf sl vl vu vs) (pl : IsPart vl none) (pu : IsPart vu none) (ps : IsPart vs (some (-1)))
    (h : Q ((n : Int) - 1, -1, n) s) : wpAny (model prog w) A (Builtin.Slice.sliceApplied (.ref sl) (pure (n : Int))) Q E s := by
  obtain ⟨os, hos, hcs, hds⟩ := id hs
  unfold Builtin.Slice.sliceApplied Builtin.Slice.sliceFields
  refine wpAny_bind (wpAny_bind (wpAny_field hos hds (x := vl) rfl (wpAny_bind (wpAny_field hos hds (x := vu) rfl (wpAny_bind (wpAny_field hos hds (x := vs) rfl (wpAny_pure ?_)))))))
  refine wpAny_bind (slicePart_ ps ?_)
  show wpAny _ _ (if ((-1 : Int) == 0) = true then _ else _) _ _ s
  rw [if_neg (by decide)]
  refine wpAny_bind (slicePart_ pl (wpAny_bind (slicePart_ pu (wpAny_bind (wpAny_pure ?_)))))
  show wpAny _ _ (match Builtin.Slice.sliceAdjust none none (-1) (n : Int) with | (lo, hi) => pure (lo, (-1 : Int), Builtin.Slice.slicePlaces lo hi (-1))) _ _ s
  rw [adj_rev n]
  show wpAny _ _ (pure ((n : Int) - 1, (-1 : Int), Builtin.Slice.slicePlaces ((n : Int) - 1) (-1) (-1))) _ _ s
  rw [places_rev]
  exact wpAny_pure h
theorem fm_congr {α β : Type} {f g : α → Option β} : ∀ {l : List α}, (∀ k ∈ l, f k = g k) → l.filterMap f = l.filterMap g
  | [], _ => rfl
  | a :: r, h => by
    rw [List.filterMap_cons, List.filterMap_cons, h a List.mem_cons_self, fm_congr (l := r) fun k hk => h k (List.mem_cons_of_mem _ hk)]
theorem pick_rev (xs : Array Value) : ((List.range xs.size).filterMap fun (k : Nat) => xs[(((xs.size : Int) - 1) + (k : Int) * (-1)).toNat]?).toArray = xs.toList.reverse.toArray := by
  have e : ((List.range xs.size).filterMap fun (k : Nat) => xs[(((xs.size : Int) - 1) + (k : Int) * (-1)).toNat]?) = (List.range xs.size).filterMap ((fun j => xs[j]?) ∘ fun k => xs.size - 1 - k) := by
    refine fm_congr fun k hk => ?_
    have := List.mem_range.mp hk
    have z : (((xs.size : Int) - 1) + (k : Int) * (-1)).toNat = xs.size - 1 - k := by omega
    rw [z]
    rfl
  rw [e, ← List.filterMap_map, PySem.W.krv_range, List.filterMap_reverse, PySem.W.krv_all]
theorem getItem_tuple_rev {t sl : Addr} {items : Array Value} {vl vu vs : Value} {Q : Value → Shared → Prop} (ht : IsTup s.heap t items) (hs : s.heap.IsSliceOf sl vl vu vs) (pl : IsPart vl none) (pu : IsPart vu none) (ps : IsPart vs (some (-1)))
    (h : Q (.ref s.heap.objs.size) { s with heap := s.heap.push { cls := .type "tuple", data := .seq items.toList.reverse.toArray } })
    (hsz : items.size ≤ sizeLine) : wpAny (model prog w) A (getItem (.ref t) (.ref sl)) Q E s := by
  have htake : sizeOk (.seq items.toList.reverse.toArray) := by
    show items.toList.reverse.toArray.size ≤ sizeLine
    rw [List.size_toArray, List.length_reverse, Array.length_toList]
    omega
  obtain ⟨os, hos, hcs, hds⟩ := id hs
  have hTs : s.TypeIs (.ref sl) "slice" := ⟨os, hos, hcs⟩
  unfold getItem
  try with_reducible refine wpAny_holding ?_
  first | refine wpAny_bind (wpAny_pure ?_) | skip
  refine wpAny_bind (wpAny_sequenceKey ht.typeIs (by decide) ?_)
  refine wpAny_bind (wpAny_callSpecial?_slot (name := Str.ofString "__getitem__") ht.typeIs PyProof.Rows.slot_tuple_getitem
    (wpAny_call_entry PyProof.Rows.slot_tuple_getitem ht.typeIs entry_tuple_getitem ?_ (args_tuple_getitem _ _)))
  show wpAny _ _ (Builtin.Tuple.tupleItemsOf (.ref t) >>= _) _ _ s
  refine wpAny_bind (tupleItemsOf_ ht ?_)
  refine wpAny_bind (wpAny_typeOf hTs ?_)
  rw [if_pos (by decide)]
  refine wpAny_bind (applied_rev hs pl pu ps ?_)
  have hno : ¬ ((((items.size : Int) - 1) == 0 && (-1 : Int) == 1 && items.size == items.size) = true) := by
    rw [show ((-1 : Int) == 1) = false by decide, Bool.and_false, Bool.false_and]
    exact Bool.false_ne_true
  show wpAny _ _ (if (((items.size : Int) - 1) == 0 && (-1 : Int) == 1 && items.size == items.size) = true then _ else _) _ _ s
  rw [if_neg hno, pick_rev]
  first
    | exact wpAny_bind (m := Builtin.Tuple.tupleExact _) (wpAny_newObj_type (wpAny_pure ⟨_, rfl, wpAny_pure h⟩) htake)
    | exact wpAny_bind (m := Builtin.Tuple.tupleExact _) (wpAny_newObj_type (wpAny_bind (wpAny_pure (wpAny_pure ⟨_, rfl, wpAny_pure h⟩))) htake)
    | exact wpAny_bind (wpAny_bind (m := Builtin.Tuple.tupleExact _) (wpAny_newObj_type (wpAny_pure (wpAny_pure ⟨_, rfl, wpAny_pure h⟩)) htake))
    | exact wpAny_bind (wpAny_bind (m := Builtin.Tuple.tupleExact _) (wpAny_newObj_type (wpAny_pure ⟨_, rfl, wpAny_pure h⟩) htake))
end
/-- a tuple whose object has no dict -/
def BareT (H : Hp) (a : Addr) (xs : List V) : Prop := ∃ o : Obj, H a = some (.frz o (.tup xs)) ∧ o.dict = none
theorem BareT.sq {K : PySem.W.Frag} {H : Hp} {a : Addr} {xs : List V} (h : BareT H a xs) : SqT K H a xs := by
  obtain ⟨o, e, _⟩ := h
  exact .inl (.inr ⟨o, e⟩)
theorem BareT.to {H H' : Hp} {a : Addr} {xs : List V} (h : BareT H a xs) (s : Same H H') : BareT H' a xs := by
  obtain ⟨o, e, d⟩ := h
  exact ⟨o, s _ _ e, d⟩
theorem bare_ty {K : PySem.W.Frag} {H : Hp} {a : Addr} {xs : List V} (h : BareT H a xs) : TyX K H (.ref a) (.type "tuple") := by
  obtain ⟨o, e, _⟩ := h
  exact .fTuple e
theorem bare_da {K : PySem.W.Frag} {H : Hp} {a : Addr} {xs : List V} {ds : List PyData} (h : BareT H a xs) (r : DaAll K H xs ds) : Da K H (.ref a) (.tuple ds) := .tup h.sq (bare_ty h) r
def rTupIx (K : PySem.W.Frag) : V → List V → Hp → VK → Prop := fun x xs H Q => ∃ p, ∃ ys : List Str, ∃ z j, x = .ref p ∧ xs = [.str z] ∧ SqT K H p (ys.map V.str) ∧ ys[j]? = some z ∧ (∀ m, m < j → ys[m]? ≠ some z) ∧ Q (.int (j : Nat)) H
theorem mt_tupIx {X : Cx} : MtR X "tuple.index" (rTupIx X.K) := mt_tup_index
def tyBare (x : V) (H : Hp) : Prop := ∃ a xs, x = .ref a ∧ BareT H a xs
section
variable {X : Cx}
theorem ty_bare : TyOk X "tuple" tyBare := by
  intro pins σ H s x v I r ty
  obtain ⟨a, xs, rfl, o, e, d⟩ := ty
  cases r
  have z := I.hok a _ e
  obtain ⟨g, _, its, _, o', g', c, _⟩ : ObjOk X.prog X.w H s.heap a (.frz o (.tup xs)) := z
  rw [g] at g'
  cases g'
  refine ⟨⟨o, g, c⟩, fun b e => ?_⟩
  cases e
  exact ⟨o, g, d⟩
theorem call_tuple_bare : CallR X (.type "tuple") (fun xs H Q => ∃ p ys, xs = [.ref p] ∧ SqL X.K H p ys ∧ ∀ l o, H l = none → o.dict = none → Q (.ref l) (upd H l (.frz o (.tup ys)))) := by
  intro pins s σ H xs us Q I r h
  obtain ⟨p, ys, rfl, hq, q⟩ := h
  obtain ⟨u, rfl, rx⟩ := vals1 r
  cases rx
  obtain ⟨its, r', pl, hz⟩ := I.list hq
  have hlen := r'.length
  refine call_tuple_list pl.isList (fun h' kp => ?_) (by simp only [List.size_toArray] <;> omega)
  have I1 : Inv X pins σ H { s with heap := h' } := I.kept (t' := s.toks) kp
  have I2 : Inv X pins σ (upd H h'.objs.size (.frz { cls := .type "tuple", data := .seq its.toArray } (.tup ys))) { s with heap := h'.push { cls := .type "tuple", data := .seq its.toArray } } :=
    I1.laid (t' := s.toks) (fun b o e => Heap.get?_push_of_some _ e) (Nat.le_refl _) (show ObjOk X.prog X.w _ _ _ (.frz { cls := .type "tuple", data := .seq its.toArray } (.tup ys)) from ⟨Heap.get?_push_size _ rfl, hz, its, r', IsTup.new _ _⟩)
  exact ⟨.ref h'.objs.size, _, I2, rfl, q _ _ (I1.hok.fresh (Nat.le_refl _)) rfl⟩
end
section
variable {X : Cx}
/-- a tuple backwards, in a new tuple -/
def tRevT (K : PySem.W.Frag) (te : TE) : TE := fun σ H Q => te σ H fun x H1 => ∃ a xs, x = .ref a ∧ SqT K H1 a xs ∧ ∀ p o, H1 p = none → o.dict = none → Q (.ref p) (upd H1 p (.frz o (.tup xs.reverse)))
theorem pe_revT {e : Expr} {te : TE} {k : Nat} {p1 p2 p3 pos : Pos} (he : PE X e te) : PE X (.Subscript e (.Slice none none (some (.UnaryOp .USub (.Constant (.int 1) k p1) p2)) p3) pos) (tRevT X.K te) := by
  refine ⟨fun pins s σ H Q I h => ?_⟩
  refine Subscript_ (thn (he.run pins s σ H _ I h) fun v s1 ⟨x, H1, I1, r1, q1⟩ => ?_)
  obtain ⟨a, xs, ex, hx, q⟩ := q1
  subst ex
  cases r1
  have hst : PO X (some (.UnaryOp .USub (.Constant (.int 1) k p1) p2)) (tPart (tUn (rU fun i => .int (-i)) (tC (.int 1)))) := po_some (pe_un un_neg pe_int)
  refine wpAny_Slice (thn (po_none.run pins s1 σ H1 (fun o H2 => o = none ∧ H2 = H1) I1 ⟨rfl, rfl⟩) fun vl s2 ⟨l, H2, I2, pl, el, e2⟩ => ?_)
  subst el e2
  refine thn (po_none.run pins s2 σ H2 (fun o H3 => o = none ∧ H3 = H2) I2 ⟨rfl, rfl⟩) fun vu s3 ⟨u, H3, I3, pu, eu, e3⟩ => ?_
  subst eu e3
  refine thn (hst.run pins s3 σ H3 (fun o H4 => o = some (-1) ∧ H4 = H3) I3 ⟨1, rfl, -1, rfl, rfl, rfl⟩) fun vs s4 ⟨o, H4, I4, ps, eo, e4⟩ => ?_
  subst eo e4
  have I5 : Inv X pins σ H4 { s4 with heap := s4.heap.push { cls := .type "slice", data := .fields #[vl, vu, vs] } } := I4.kept (t' := s4.toks) fun b ob q => Heap.get?_push_of_some _ q
  obtain ⟨its, r, ht, hz⟩ := I5.tuple hx
  have hlen : its.toArray.size = xs.length := by rw [List.size_toArray]; exact r.length.symm
  show wpAny (model X.prog X.w) X.A (subscriptTail e (.Slice none none (some (.UnaryOp .USub (.Constant (.int 1) k p1) p2)) p3) (.ref a) (.ref s4.heap.objs.size)) (EP X pins σ Q) X.xe { s4 with heap := s4.heap.push { cls := .type "slice", data := .fields #[vl, vu, vs] } }
  refine tail_any (ops := [.ref a, .ref s4.heap.objs.size]) ht.typeIs PyProof.Rows.slot_tuple_getitem.lookup ?_ (by with_unfolding_all rfl)
  refine getItem_tuple_rev ht (Heap.IsSliceOf.new _ vl vu vs) pl pu ps ?_ (by rw [hlen]; exact hz)
  refine ⟨.ref _, _, I5.laid (t' := s4.toks) (o := .frz { cls := .type "tuple", data := .seq its.toArray.toList.reverse.toArray } (.tup xs.reverse)) (fun b ob q => Heap.get?_push_of_some _ q) (Nat.le_refl _) ?_, rfl, q _ _ (I5.hok.fresh (Nat.le_refl _)) rfl⟩
  exact ⟨Heap.get?_push_size _ rfl, by rw [List.length_reverse]; exact hz, _, r.reverse, IsTup.new _ _⟩
end
end Th
/-! sorted(a tuple of texts) -/
namespace L2
open PySem PySem.Spec PyProof.Rows
section
variable {P : Program} {w : World} {A : Around} {E : Value → Shared → Prop} {s : Shared}
theorem tt_collect {t : Addr} {vs : List Value} {Q : List Value → Shared → Prop} (ht : IsTup s.heap t vs.toArray) (hz : vs.length ≤ sizeLine)
    (fin : ∀ s1 : Shared, (∀ b o, s.heap.get? b = some o → s1.heap.get? b = some o) → s1.gens = s.gens → s1.os = s.os → s.heap.objs.size ≤ s1.heap.objs.size → Q vs s1) :
    wpAny (model P w) A (collect (.ref t)) Q E s := by
  obtain ⟨o, ho, hc, n, hd⟩ := ht
  have hn : (s.heap.push (seqObj "list" #[] 0)).get? s.heap.objs.size = some (seqObj "list" #[] 0) := Heap.get?_push_size _ rfl
  unfold collect
  refine wpAny_bind (wpAny_runValue (codeAny_builtin entry_proto_collect' ?_))
  show wpAny _ _ (do again (.builtin "list.__iadd__" ⟨[← newList [], .ref t], []⟩)) _ _ s
  refine wpAny_bind (wpAny_newList (wpAny_pure ⟨Code.quiet_builtin _ (by decide +kernel), codeAny_builtin entry_list_iadd' ?_⟩))
  show wpAny _ _ (Builtin.List.listExtendWith (.ref s.heap.objs.size) (.ref t) (.ref s.heap.objs.size)) _ _ { s with heap := s.heap.push (seqObj "list" #[] 0) }
  have ho' : (s.heap.push (seqObj "list" #[] 0)).get? t = some o := Heap.get?_push_of_some _ ho
  unfold Builtin.List.listExtendWith
  refine wpAny_bind (wpAny_typeOf (T := "tuple") ⟨o, ho', hc⟩ ?_)
  rw [if_pos (by simp)]
  refine wpAny_bind (listItems_at ho' hd (wpAny_bind (listItems_at (xs := #[]) (n := 0) hn rfl ?_)))
  rw [if_neg (by simp)]
  refine wpAny_bind (listUpdate_at (xs := #[]) (n := 0) hn rfl ?_ (Nat.zero_le _) (by rw [Array.size_append, List.size_toArray]; show 0 + vs.length ≤ sizeLine + 1; omega))
  refine wpAny_pure ?_
  show wpAny (model P w) A (do
      let o ← load s.heap.objs.size
      match o.data with
      | .seq xs _ => pure xs.toList
      | _ => unsupported "internal:collect") Q E { s with heap := (s.heap.push (seqObj "list" #[] 0)).update s.heap.objs.size (Obj.mapSeq (· ++ vs.toArray)) }
  refine wpAny_bind (wpAny_load (get?_update_seq hn _) ?_)
  show wpAny _ _ (pure ((#[] : Array Value) ++ vs.toArray).toList) Q E _
  rw [show ((#[] : Array Value) ++ vs.toArray).toList = vs by simp]
  refine wpAny_pure (fin _ (fun b u hb => ?_) rfl rfl ?_)
  · have lt := Heap.lt_size hb
    show ((s.heap.push (seqObj "list" #[] 0)).update s.heap.objs.size (Obj.mapSeq (· ++ vs.toArray))).get? b = some u
    rw [Heap.get?_update_ne _ _ _ _ (Nat.ne_of_lt lt)]
    exact Heap.get?_push_of_some _ hb
  · show s.heap.objs.size ≤ ((s.heap.push (seqObj "list" #[] 0)).update s.heap.objs.size (Obj.mapSeq (· ++ vs.toArray))).objs.size
    rw [Heap.size_update, size_push']
    exact Nat.le_succ _
theorem tt_sorted {a : Addr} {vs : List Value} {l : List Str} {Q : Value → Shared → Prop} (ht : IsTup s.heap a vs.toArray) (hS : StrsAre vs l) (h64 : vs.length < 64)
    (fin : ∀ s' p (out : Array Value) (c : Nat) (ys : List Str), (∀ b o, s.heap.get? b = some o → s'.heap.get? b = some o) → s'.gens = s.gens → s'.os = s.os → s.heap.objs.size ≤ p →
      s'.heap.get? p = some (seqObj "list" out c) → StrsAre out.toList ys → ys.Perm l → sortedS ys = true → Q (.ref p) s') :
    wpAny (model P w) A (call (.builtin "sorted") [.ref a]) Q E s := by
  have hz : vs.length ≤ sizeLine := by rw [sizeLine_eq]; omega
  refine Calls.call_function_entry kind_sorted plain_sorted entry_sorted (args_sorted1 _) ?_
  unfold Builtin.«sorted»
  refine wpAny_bind (m := checkCount "sorted" 1 1 _) (wpAny_pure ?_)
  refine wpAny_bind (tt_collect ht hz fun s1 k1 g1 o1 hz1 => ?_)
  refine wpAny_bind (wpAny_newList ?_ hz)
  have hoL : (s1.heap.push (seqObj "list" vs.toArray 0)).get? s1.heap.objs.size = some (seqObj "list" vs.toArray 0) := Heap.get?_push_size _ rfl
  refine wpAny_bind (wpAny_holding (wpAny_call_entry slot_list_sort ⟨_, hoL, rfl⟩ entry_list_sort
    (list_sort_treeK strKind_oneLt hoL hS.keysOf (fun v₁ v₂ rest e => keyKind_strs (by rw [← e]; exact hS)) h64 fun st' a1 a2 => ⟨_, rfl, ?_⟩) (args_list_sort _)))
  obtain ⟨ys, b1, b2, b3⟩ := sorted_out_str hS a1 a2
  obtain ⟨c, hc⟩ := sortedHeap_at (vs := vs) (out := (arrOf st').map (·.2)) hoL
  refine wpAny_pure ⟨_, rfl, fin _ s1.heap.objs.size _ c ys (fun b u e => ?_) g1 o1 hz1 hc b1 b2 b3⟩
  have q := k1 b u e
  have hlt := Heap.lt_size q
  show (sortedHeap (s1.heap.push (seqObj "list" vs.toArray 0)) s1.heap.objs.size vs _).get? b = some u
  rw [sortedHeap_old (Nat.ne_of_lt hlt) (by rw [size_push']; exact Nat.lt_succ_of_lt hlt)]
  exact Heap.get?_push_of_some _ q
end
section
variable {X : Cx}
def rSortedTT (K : PySem.W.Frag) : List V → Hp → VK → Prop := fun vs H Q => ∃ (a : Addr) (l : List Str), vs = [V.ref a] ∧ SqT K H a (l.map V.str) ∧ l.length < 64 ∧
  ∀ (ys : List Str) (p : Addr), ys.Perm l → sortedS ys = true → H p = none → Q (.ref p) (upd H p (.lst (ys.map V.str)))
theorem cr_sortedTT : CallR X (.builtin "sorted") (rSortedTT X.K) := by
  intro pins s σ H vs us Q I r h
  obtain ⟨a, l, rfl, ha, h64, q⟩ := h
  obtain ⟨its, rv, ht, hz⟩ := I.tuple ha
  rw [Vals.ref1 r]
  have hl := rv.length
  rw [List.length_map] at hl
  refine tt_sorted ht rv.strs (by rw [← hl]; exact h64) fun s' p out c ys k g o hp hg hi hs hm => ?_
  have hlen : (ys.map V.str).length ≤ sizeLine := by rw [List.length_map, hs.length_eq, sizeLine_eq]; omega
  have hn : H p = none := I.hok.fresh hp
  have J : Inv X pins σ (upd H p (.lst (ys.map V.str))) { s with heap := s'.heap, gens := s'.gens, drawn := s'.drawn, toks := s'.toks } :=
    I.call (ch := []) (Un.laid k hp hn) (I.hok.laid k hp ⟨hlen, out.toList, c, vals_of_strs hi, hg⟩) (by rw [g]; exact I.bare) (fun _ z => nomatch z)
  have e : s' = { s with heap := s'.heap, gens := s'.gens, drawn := s'.drawn, toks := s'.toks } := by
    cases s'
    cases s
    cases o
    rfl
  rw [e]
  exact ⟨.ref p, _, J, rfl, q ys p hs hm hn⟩
end
end L2
/-! own exceptions with fields, over any built-in class: made, stored into, raised -/
namespace PySem
namespace XG
open PySem.W PySem.Calls PyProof.Rows
open Builtin Builtin.ObjectAttr
section
variable {prog : Program} {w : World} {A : Around} {R : Result → Shared → Prop} {hp : Heap} {g : Array GenState} {d : Drawn} {t : Nat} {os : OsState}
variable {K : W.Frag} {name : Str} {tk : Tok} {v : Value} {x C t1 : Addr} {B : String} {bmB : List Value}
abbrev rec_ (C t1 : Addr) (dv : Option Addr) : Obj := { cls := .ref C, dict := dv, data := .fields #[.ref t1, .none, .none, .none, .bool false, .none] }
/-- x.name = v, x without a dict as yet -/
theorem first_store (SF : StoreFacts B bmB "object.__setattr__" "object") (X : K.In hp) (hx : hp.get? x = some (rec_ C t1 none)) (ov : excOver K C bmB = true) (ht : takerIn K C name = some none) (hh : hasDictIn K C = true)
    (hq : ∀ h' tk' dx, (∀ b o, b ≠ x → hp.get? b = some o → h'.get? b = some o) → hp.objs.size ≤ dx → h'.get? x = some (rec_ C t1 (some dx)) → h'.Ns1 dx (fun y => if y = name then some v else none) → R (.ok (.ret .none)) ⟨h', g, d, tk', os⟩) :
    codeAny (model prog w) A (.call (.builtin "object.__setattr__") ⟨[.ref x, .str name tk, v], []⟩) R ⟨hp, g, d, t, os⟩ := by
  refine osa_openX (s := ⟨hp, g, d, t, os⟩) (od := none) SF X ⟨hx, rfl, rfl, trivial⟩ ov ht fun b => ?_
  obtain ⟨cd, hc, hd⟩ := any_some hh
  have lt : x < hp.objs.size := Heap.lt_size hx
  refine wpAny_bind (wpAny_pure (wpAny_bind (instanceDict_exc hx (looks_clsIn X hc) hd ?_)))
  show wpAny _ _ (storeInDict hp.objs.size (.str name tk) name v) _ _ _
  refine HandSPX.store_in_new (hp := (hp.push (dictOf [] 0)).update x fun o => { o with dict := some hp.objs.size }) ⟨_, #[], 0, (Heap.get?_update_ne _ _ _ _ (Nat.ne_of_gt lt)).trans (Heap.get?_push_at rfl rfl), rfl, fun e he => absurd he (by simp), fun _ => rfl⟩ fun h' tk' hn sm => ?_
  have up : ((hp.push (dictOf [] 0)).update x fun o => { o with dict := some hp.objs.size }).get? x = some (rec_ C t1 (some hp.objs.size)) := Heap.get?_update_self _ (Heap.get?_push_of_some _ hx) rfl
  refine hq h' tk' hp.objs.size (fun b o nb e => ?_) (Nat.le_refl _) ((sm.2 x (Nat.ne_of_lt lt)).trans up) hn
  have e1 := Heap.get?_push_of_some (dictOf [] 0) e
  exact (sm.2 b (Nat.ne_of_lt (Heap.lt_size e))).trans ((Heap.get?_update_ne _ _ _ _ nb).trans e1)
/-- x.name = v, x's dict at dx -/
theorem next_store {dx : Addr} {m0 : Str → Option Value} {nl : List Str} (SF : StoreFacts B bmB "object.__setattr__" "object") (X : K.In hp) (hx : hp.get? x = some (rec_ C t1 (some dx))) (hn : hp.Ns1 dx m0) (hw : Within m0 nl) (hl : nl.length ≤ 1000)
    (ov : excOver K C bmB = true) (ht : takerIn K C name = some none) (hh : hasDictIn K C = true)
    (hq : ∀ h' tk', (∀ b o, b ≠ dx → hp.get? b = some o → h'.get? b = some o) → h'.Ns1 dx (fun y => if y = name then some v else m0 y) → R (.ok (.ret .none)) ⟨h', g, d, tk', os⟩) :
    codeAny (model prog w) A (.call (.builtin "object.__setattr__") ⟨[.ref x, .str name tk, v], []⟩) R ⟨hp, g, d, t, os⟩ := by
  obtain ⟨od, _, _, D, _, _⟩ := hn.count hw
  refine osa_openX (s := ⟨hp, g, d, t, os⟩) (od := some od) SF X ⟨hx, rfl, rfl, D⟩ ov ht fun b => ?_
  obtain ⟨cd, hc, hd⟩ := any_some hh
  refine wpAny_bind (wpAny_pure (wpAny_bind (wpAny_bind (wpAny_loadPart hx (wpAny_bind ((looks_clsIn X hc).here ?_))))))
  rw [hd]
  refine wpAny_pure (a := some dx) ?_
  exact PySem.OEX.store_in_old hn hw hl fun h' tk' hn' sm => hq h' tk' (fun b o nb e => (sm.2 b nb).trans e) hn'
end
end XG
end PySem

namespace L2
open PySem PySem.Spec PyProof.Rows
/-- what the written part says of an own exception class at C -/
structure ExG (K : PySem.W.Frag) (C : Addr) : Prop where
  over : ∃ (B newId initId : String) (bmB : List Value), ExcBaseFacts B newId initId bmB ∧ StoreFacts B bmB "object.__setattr__" "object" ∧ PySem.W.excInitIn K C bmB newId = true ∧ PySem.W.excOver K C bmB = true
  sa : PySem.W.findIn K (.ref C) "__setattr__" = some (some (.builtin "object.__setattr__"))
  exC : PySem.W.subIn K (.ref C) (.type "BaseException") = some true
  tyC : PySem.W.typeIn K (.ref C) = some (.type "type")
  kC : PySem.W.keepIn K (.ref C) = true
  hd : PySem.W.hasDictIn K C = true
theorem taker_none {K : PySem.W.Frag} {C : Addr} {f : Str} (h : PySem.W.findIn K (.ref C) f = some none) : PySem.W.takerIn K C f = some none := by
  unfold PySem.W.takerIn
  rw [h]
  rfl
section
variable {X : Cx} {pins : List (Addr × Obj)} {σ : St} {H : Hp} {s : Shared} {a C dx : Addr} {f : Str} {y : V} {u : Value} {fs : List (Str × V)} {Q : Unit → Shared → Prop} {E : Value → Shared → Prop} {A : Around}
theorem put_first (T : ExG X.K C) (I : Inv X pins σ H s) (e : H a = some (exo a C none)) (nf : PySem.W.findIn X.K (.ref C) f = some none) (ry : RelV y u)
    (h : ∀ dx s', H dx = none → dx ≠ a → Inv X pins σ (upd (upd H dx (exd dx [(f, y)])) a (exo a C (some dx))) s' → Q () s') : wpAny (model X.prog X.w) A (setAttr (.ref a) f u) Q E s := by
  obtain ⟨B, newId, initId, bmB, FB, SF, ini, ov⟩ := T.over
  obtain ⟨t1, ho⟩ := exo_at I.hok e
  obtain ⟨hp, g, d, t, os⟩ := s
  refine PySem.W.set_plain I.kIn (ox := PySem.XG.rec_ C t1 none) (od := none) ⟨ho, rfl, rfl, trivial⟩ T.sa ?_
  refine PySem.XG.first_store SF I.kIn ho ov (taker_none nf) T.hd fun h' tk' dx k dn hx hn => ?_
  have fr : H dx = none := I.hok.fresh dn
  have ne : dx ≠ a := fun z => Nat.lt_irrefl _ (Nat.lt_of_lt_of_le (by rw [← z] at ho; exact Heap.lt_size ho) dn)
  -- the dict is laid ahead of the object's change
  have g1 : (h'.update a fun _ => PySem.XG.rec_ C t1 none).get? a = some (PySem.XG.rec_ C t1 none) := Heap.get?_update_self _ hx rfl
  have g2 : ∀ b, b ≠ a → (h'.update a fun _ => PySem.XG.rec_ C t1 none).get? b = h'.get? b := fun b nb => Heap.get?_update_ne _ _ _ _ nb
  have I1 : Inv X pins σ (upd H dx (exd dx [(f, y)])) ⟨h'.update a fun _ => PySem.XG.rec_ C t1 none, g, d, tk', os⟩ := by
    refine I.laid (t' := tk') (a := dx) (o := exd dx [(f, y)]) (h' := h'.update a fun _ => PySem.XG.rec_ C t1 none) (fun b o q => ?_) dn (exd_ok (hn.at fun o q => (g2 dx ne).trans q) fun z => ?_)
    · by_cases hb : b = a
      · subst hb
        rw [show hp.get? b = some o from q] at ho
        cases ho
        exact g1
      · exact (g2 b hb).trans (k b o hb q)
    · have z2 := relO_put (f := f) (fs := []) (mA := fun _ => none) ry (fun _ => trivial) z
      exact z2
  have I2 := I1.write (t' := tk') (x := a) (e := a) (o := exo a C (some dx)) (h' := h') (by rw [upd_ne ne.symm, e]; exact True.intro) (.inl rfl) (fun b o nb q => (g2 b nb).symm.trans q) ⟨_, hx⟩ (exo_ok hx)
  exact h dx _ fr ne I2
theorem put_next (T : ExG X.K C) (I : Inv X pins σ H s) (e : H a = some (exo a C (some dx))) (ed : H dx = some (exd dx fs)) (hl : fs.length ≤ 900) (nf : PySem.W.findIn X.K (.ref C) f = some none) (ry : RelV y u)
    (h : ∀ s', Inv X pins σ (upd H dx (exd dx ((f, y) :: fs))) s' → Q () s') : wpAny (model X.prog X.w) A (setAttr (.ref a) f u) Q E s := by
  obtain ⟨B, newId, initId, bmB, FB, SF, ini, ov⟩ := T.over
  obtain ⟨t1, ho⟩ := exo_at I.hok e
  obtain ⟨mA, hns, rel⟩ := exd_at I.hok ed
  have wi := within_of rel
  obtain ⟨hp, g, d, t, os⟩ := s
  obtain ⟨oD, _, _, D, _, _⟩ := hns.count wi
  refine PySem.W.set_plain I.kIn (ox := PySem.XG.rec_ C t1 (some dx)) (od := some oD) ⟨ho, rfl, rfl, D⟩ T.sa ?_
  refine PySem.XG.next_store SF I.kIn ho hns wi (by rw [List.length_map]; omega) ov (taker_none nf) T.hd fun h' tk' k hn => ?_
  have there : ∃ o, h'.get? dx = some o := let ⟨o, _, _, q, _⟩ := hn; ⟨o, q⟩
  exact h _ (I.write (t' := tk') (x := dx) (e := dx) (o := exd dx ((f, y) :: fs)) (by rw [ed]; exact True.intro) (.inl rfl) k there (exd_ok hn (relO_put ry rel)))
end
/-- self.f = e in such a class's __init__ -/
def tPut (K : PySem.W.Frag) (f : Str) (to te : TE) : TS := fun D σ H => te σ H fun y H1 => to σ H1 fun x H2 => ∃ a C : Addr, x = .ref a ∧ ExG K C ∧ PySem.W.findIn K (.ref C) f = some none ∧
  ((H2 a = some (exo a C none) ∧ ∀ dx, H2 dx = none → dx ≠ a → D.nx σ (upd (upd H2 dx (exd dx [(f, y)])) a (exo a C (some dx)))) ∨
    ∃ (dx : Addr) (fs : List (Str × V)), H2 a = some (exo a C (some dx)) ∧ H2 dx = some (exd dx fs) ∧ fs.length ≤ 900 ∧ D.nx σ (upd H2 dx (exd dx ((f, y) :: fs))))
theorem ps_put {X : Cx} {o e : Expr} {to te : TE} {f : Str} {p' pos : Pos} (ho : PE X o to) (he : PE X e te) (hs : swapsWith e (some (.Attribute o f p')) pos.line X.env = pure false := by rfl) : PS X (.Assign [.Attribute o f p'] e pos) (tPut X.K f to te) := by
  constructor
  intro pins s σ H D I h
  refine plainObj_wpAny_Assign_Attribute (thn (he.run pins s σ H _ I h) fun v s1 hv => ?_) hs
  obtain ⟨y, H1, I1, ry, q1⟩ := hv
  refine thn (ho.run pins s1 σ H1 _ I1 q1) fun u s2 hu => ?_
  obtain ⟨x, H2, I2, rx, a, C, ex, T, nf, q⟩ := hu
  subst ex
  obtain rfl : u = Value.ref a := rx
  rcases q with ⟨ea, q⟩ | ⟨dx, fs, ea, ed, hl, q⟩
  · exact put_first T I2 ea nf ry fun dx s' n ne J => ⟨σ, _, J, q dx n ne⟩
  · exact put_next T I2 ea ed hl nf ry fun s' J => ⟨σ, _, J, q⟩
/-- C(e, ..) -/
def tNewX (C : Addr) (sp : Sp) (ta : TA) : St → Hp → XK → Prop := fun σ H Q => ta σ H fun vs H1 => vs.length ≤ 1000 ∧ ∀ a, H1 a = none → sp (.ref a :: vs) (upd H1 a (exo a C none))
  (fun v H2 => v = .non ∧ ∃ (d : Addr) (fs : List (Str × V)), H2 a = some (exo a C (some d)) ∧ H2 d = some (exd d fs) ∧ H1 d = none ∧ Q (.ref C) (some d) (upd (del H2 a) d (.xd fs))) (fun _ _ _ => False)
theorem pmk_new {X : Cx} {x : Str} {C fI : Addr} {k : Nat} {fd : FuncData} {ps : List Str} {sp : Sp} {e : Expr} {es : List Expr} {ta : TA} {p pos : Pos} (T : ExG X.K C) (iC : PySem.W.findIn X.K (.ref C) "__init__" = some (some (.ref fI))) (tI : PySem.W.typeIn X.K (.ref fI) = some (.type "function"))
    (F1 : FnOk X.prog X.w X.K X.mg X.base CX0 k fI fd ps sp) (hr : Room (k + 1) X.A) (hb : Binds X.K fd ps []) (hg : Gl X x) (hm : X.mg x = some (.ref C)) (ha : PA X (e :: es) ta)
    (hdb : (x == ("__debug__" : Str)) = false := by decide) (he : starEach (e :: es) X.env = (false, eval e X.env) :: starEach es X.env := by rfl) (hpl : (backTo pos (starEach es X.env)).any (·.1) = false := by rfl) :
    PMk X (.Call (.Name x p) (e :: es) [] pos) (tNewX C sp ta) := by
  intro pins s σ H Q I h
  obtain ⟨B, newId, initId, bmB, FB, SF, ini, ov⟩ := T.over
  refine wpAny_Call_Name_kw (ld_glob I hg hm ?_ hdb)
  refine PySem.W.callWith_K (h₀ := X.base) I.ok.mod.kin T.kC (thn (ha.run pos pins s σ H _ I h) fun us s1 hu => ?_) he hpl
  obtain ⟨vs, H1, I1, r1, hz, q1⟩ := hu
  refine ⟨I1.kIn, ?_⟩
  obtain ⟨nm, N, qn, bs, bm, hdct, sn, sub, ab, col, dd, k0, k1, k2, k3, k5, hC, hT⟩ := PySem.W.excInit_of I1.kIn ini
  obtain ⟨hp, g, dr, tk, os⟩ := s1
  have up1 : hp.objs.size ≤ (hp.objs.size + 1) := Nat.le_succ _
  have fr : H1 (hp.objs.size + 1) = none := I1.hok.fresh up1
  have got : ((hp.push (PySem.W.kdv_tup us)).push (PySem.HandSPX.excO C hp.objs.size)).get? (hp.objs.size + 1) = some (PySem.HandSPX.excO C hp.objs.size) := by heap_get
  have two : ∀ b o, hp.get? b = some o → ((hp.push (PySem.W.kdv_tup us)).push (PySem.HandSPX.excO C hp.objs.size)).get? b = some o := fun b o q => Heap.get?_push_of_some _ (Heap.get?_push_of_some _ q)
  have I2 := I1.laid (t' := tk) (a := (hp.objs.size + 1)) (o := exo (hp.objs.size + 1) C none) (h' := (hp.push (PySem.W.kdv_tup us)).push (PySem.HandSPX.excO C hp.objs.size)) two up1 (exo_ok got)
  have want := q1 (hp.objs.size + 1) fr
  have r2 : Vals (V.ref (hp.objs.size + 1) :: vs) (Value.ref (hp.objs.size + 1) :: us) := .cons rfl r1
  have len : (Value.ref (hp.objs.size + 1) :: us).length = ps.length := r2.length.symm.trans (F1.len _ _ _ _ want)
  have short : us.length ≤ sizeLine := by
    rw [← Paired.length r1, sizeLine_eq]
    omega
  have hbb := hb _ (Value.ref (hp.objs.size + 1) :: us) I2.kIn (by rw [List.append_nil]; exact len)
  rw [List.append_nil] at hbb
  have run := F1.run _ X.stack _ _ ⟨Value.ref (hp.objs.size + 1) :: us, []⟩ (Value.ref (hp.objs.size + 1) :: us) _ _ (fun _ _ _ => False) (hr.make C us []) (I2.env0.make C us []) hbb r2 want
  refine wpAny_call (PySem.HandSPX.call_own FB hT hC (PySem.W.looks_findIn I1.kIn iC) (fun self => PySem.W.bind_fn I1.kIn self tI) short (codeAny_mono run fun r s' z => ?_))
  cases r with
  | error er => exact z.elim
  | ok fl =>
    cases fl with
    | next => exact z.elim
    | brk => exact z.elim
    | cont => exact z.elim
    | ret u =>
      obtain ⟨v, H2, os2, bare, un, hok, rv, ev, d, fs, ea, ed, hd1, q2⟩ := z
      subst ev
      obtain ⟨h2, g2, d2, t2, os'⟩ := s'
      exact ⟨rv, mk_end (raises_own T.exC T.tyC) I1 up1 two un hok os2 bare ea ed hd1 q2⟩
end L2
/-! an exception caught by a clause of two classes, its fields read, also in a def that it is handed to; a lambda called in a try -/
namespace PySem
namespace XG
theorem fly_on {base h h' : Heap} {l : List Env} {e : Addr} {Z : Obj → Prop} (F : HandSPX.FlyingZ base l e Z h) (k : ∀ b o, h.get? b = some o → h'.get? b = some o) : HandSPX.FlyingZ base l e Z h' := by
  obtain ⟨f1, f2, f3, oe, ws, T, oT, ts, g1, g2, g3, g4, g5, g6, g7, g8, g9⟩ := F
  exact ⟨fun b o q => k b o (f1 b o q), f2, f3.of_keeps fun b o q _ => ⟨o, k b o q, rfl⟩, oe, ws, T, oT, ts, k _ _ g1, g2, g3, g4, g5, g6, k _ _ g7, g8, g9⟩
end XG
end PySem
namespace L2
open PySem PySem.Spec PyProof.Rows L2H
/-! ### a field of a pinned exception -/
/-- the pinned exception: class C, its dict at dd -/
structure PinX (p : Addr × Obj) (C dd : Addr) : Prop where
  z : Zc (.ref C) (some dd) p.2
  f : ∃ vs, p.2.data = .fields vs
def tPinf (K : PySem.W.Frag) (p : Addr × Obj) (f : Str) (te : TE) : TE := fun σ H Q => te σ H fun x H1 => x = .ref p.1 ∧ ∃ (C dd : Addr) (fs : List (Str × V)) (v : V), PinX p C dd ∧ XfC K C ∧ PySem.W.findIn K (.ref C) f = some none ∧ H1 dd = some (.xd fs) ∧ fs.lookup f = some v ∧ Q v H1
theorem pe_pinf {X : Cx} {p : Addr × Obj} {e : Expr} {te : TE} {pos : Pos} {n : Str} (hp : p ∈ X.pn) (he : PE X e te) (hb : attributeBase e n X.env (eval e X.env) = eval e X.env := by rfl) : PE X (.Attribute e n pos) (tPinf X.K p n te) := by
  constructor
  intro pins s σ H Q I h
  refine attr_of hb (thn (he.run pins s σ H _ I h) fun u s1 hu => ?_)
  obtain ⟨x, H1, I1, rx, ex, C, dd, fs, v, P, T, nf, ea, l, q⟩ := hu
  subst ex
  obtain rfl : u = Value.ref p.1 := rx
  have at_ := (I1.pin p (List.mem_append_left _ hp)).1
  obtain ⟨vs, hd⟩ := P.f
  have held : ObjOk X.prog X.w H1 s1.heap dd (.xd fs) := I1.hok dd _ ea
  obtain ⟨mA, hns, rel⟩ := held
  obtain ⟨od, ho, hl⟩ := lookIn_ns hns
  obtain ⟨w, hw, rw⟩ := RelO.some_of (v := v) (o := mA n) (by rw [← l]; exact rel n)
  have J : PySem.W.InstAt s1.heap p.1 p.2 C (some od) := by
    refine ⟨at_, P.z.1, ?_, by rw [P.z.2]; exact ho⟩
    unfold PySem.W.notCls
    rw [hd] <;> rfl
  exact HandSPX.exc_get I1.kIn J T.ga T.gg T.exC (PySem.W.findObj_own T.hdC nf rfl (by rw [hl, hw])) (handed_of rw) ⟨v, H1, I1.tok _, rw, q⟩
/-! ### a def called in an except suite that raises nothing -/
structure FnQ (P : Program) (w : World) (K : PySem.W.Frag) (mg : Str → Option Value) (base : Heap) (k : Nat) (f : Addr) (fd : FuncData) (ps : List Str) (sp : Addr × Obj → Sp) : Prop where
  len : ∀ p vs H Q E, sp p vs H Q E → vs.length = ps.length
  run : ∀ (A : Around) (outer : List Env) (s : Shared) (H : Hp) (args : Args) (us : List Value) (vs : List V) (Q : VK) (E : XK) (p : Addr × Obj), RoomH k A → PinOk outer H s p → Env0 P w K mg base A outer s H → BindsTo s fd args (ps.zip us) → Vals vs us → sp p vs H Q E →
    codeAny (model P w) A (.call (.ref f) args) (CR CX0 outer P w H s Q E) s
theorem quiet_ok {P : Program} {w : World} {K : PySem.W.Frag} {mg : Str → Option Value} {base : Heap} {x qual : Str} {st : Stmt} {f : Addr} {fd : FuncData} {N ps : List Str} {k : Nat} {sp : Addr × Obj → Sp} (F : Fun K x qual st f fd) (S : FnScope N ps (defScope st)) (len : ∀ p vs H Q E, sp p vs H Q E → vs.length = ps.length)
    (hbody : ∀ (cdv : Value) (A : Around) (outer : List Env) (s : Shared) (H : Hp) (vs : List V) (Q : VK) (E : XK) (p : Addr × Obj), RoomH k (A.deeper (envOfC qual (defScope st) s.heap.objs.size f cdv)) → sp p vs H Q E →
      ∃ t, PSs (cxH CX0 P w K mg base N qual (defScope st) f cdv A outer s H E p) (defBody st) t ∧ t { nx := fun _ H' => Q .non H', rt := Q } (L2.start N vs) H) : FnQ P w K mg base (k + 1) f fd ps sp := by
  obtain ⟨oc, od, kV, doc, pm, an, cdv, ct, osl, rfl, lk, hcd⟩ := F.ex
  refine ⟨len, fun A outer s H args us vs Q E p hr pin e0 hb r hsp => ?_⟩
  have inK : K.In s.heap := e0.mod.kin.keeps fun b o e => (e0.bs b o e).1
  have kinds : ∀ y ∈ ps.zip us, (defScope st).names.lookup y.1 = some .local ∨ ((defScope st).names.lookup y.1 = some .cell ∧ ((cellsFrom (s.heap.objs.size + 1) (defScope st).names []).lookup y.1).isSome = true) := by
    rintro ⟨n, v⟩ hy
    rcases S.par n (List.of_mem_zip hy).1 with q | q
    · exact .inl q
    · exact .inr ⟨q, PySem.W.cellsFrom_some _ _ _ (.inl q)⟩
  refine codeAny_call_function hr.depth (inK _ _ lk) rfl S.co S.gen rfl (PySem.W.codeRec_of inK hcd) (hb _ _ _ _ ?_)
  refine wpAny_newFunctionEnv_cells S.kind kinds fun env he s1 x => ?_
  subst he
  refine ⟨(e0.mod.nolimit.keeps fun b o e => (e0.bs b o e).1).keeps x.toInCall.keep, codeAny_func ?_⟩
  obtain ⟨t, ht, hq⟩ := hbody cdv A outer s H vs Q E p (hr.deeper _) hsp
  have I := inv_startH (CX := CX0) (K := K) (mg := mg) (base := base) (P := P) (w := w) (E := E) (A := A) (qual := qual) (f := f) (cd := cdv) S pin e0 (len _ _ _ _ _ hsp) r x
  refine wpAny_mono (ht.run [] s1 (L2.start N vs) H _ I hq) (fun fl s' hs => ?_) fun e s' hs => hs
  cases fl with
  | ret u =>
    obtain ⟨v, σ', H', J, rv, q⟩ := hs
    exact ⟨v, H', J.os, J.bare, J.base, J.hok, rv, q⟩
  | next =>
    obtain ⟨σ', H', J, q⟩ := hs
    exact ⟨V.non, H', J.os, J.bare, J.base, J.hok, rfl, q⟩
  | brk =>
    obtain ⟨_, _, _, q⟩ := hs
    exact False.elim q
  | cont =>
    obtain ⟨_, _, _, q⟩ := hs
    exact False.elim q
theorem pe_callQ {X : Cx} {k : Nat} {f : Addr} {fd : FuncData} {ps : List Str} {sp : Addr × Obj → Sp} {x : Str} {q pos : Pos} {e : Expr} {es : List Expr} {t : TA} {p : Addr × Obj} (hp : p ∈ X.pn) (F : FnQ X.prog X.w X.K X.mg X.base k f fd ps sp) (hr : RoomH k X.A) (hg : Gl X x) (hm : X.mg x = some (.ref f)) (hk : PySem.W.keepIn X.K (.ref f) = true) (hb : Binds X.K fd ps [])
    (ha : PA X (e :: es) t) (hdb : (x == ("__debug__" : Str)) = false := by decide) (he : starEach (e :: es) X.env = (false, eval e X.env) :: starEach es X.env := by rfl) (hpl : (backTo pos (starEach es X.env)).any (·.1) = false := by rfl) :
    PE X (.Call (.Name x q) (e :: es) [] pos) (fun σ H Q => t σ H fun vs H1 => sp p vs H1 Q E0) := by
  constructor
  intro pins s σ H Q I h
  refine wpAny_Call_Name_kw (ld_glob I hg hm ?_ hdb)
  refine PySem.W.callWith_K (h₀ := X.base) I.ok.mod.kin hk (thn (ha.run pos pins s σ H _ I h) fun us s1 hu => ?_) he hpl
  obtain ⟨vs, H1, I1, r, hq⟩ := hu
  refine ⟨I1.kIn, ?_⟩
  have b := hb s1 us I1.kIn (by rw [List.append_nil, ← r.length]; exact F.len _ _ _ _ _ hq)
  rw [List.append_nil] at b
  obtain ⟨p1, p2, p3, p4, p5⟩ := I1.pin p (List.mem_append_left _ hp)
  have pin : PinOk X.stack H1 s1 p := ⟨p1, p2, fun hm => (List.mem_cons.mp (I1.stkSub p.1 hm)).elim p3 p4, p5⟩
  refine wpAny_call (codeAny_mono (F.run X.A X.stack s1 H1 ⟨us, []⟩ us vs Q E0 p hr pin I1.env0 b r hq) fun r s' z => ?_)
  cases r with
  | error e => exact (show False from z).elim
  | ok fl =>
    cases fl with
    | ret u => exact I1.after z
    | next => exact False.elim z
    | brk => exact False.elim z
    | cont => exact False.elim z
/-! ### try: body, except (x1, x2) as n: suite; nothing else flies -/
def wTwo (K : PySem.W.Frag) (c1 c2 : Value) (i : Nat) (ts : Addr → Value → Option Addr → TS) (D : Ends) : WX := fun cls d σ H => PySem.W.exmAny K cls [c1, c2] = some true ∧
  ∀ a, H a = none → i < σ.length → ts a cls d { nx := fun σ' H' => D.nx (σ'.set i none) H', rt := D.rt, bk := fun σ' H' => D.bk (σ'.set i none) H', ct := fun σ' H' => D.ct (σ'.set i none) H' } (σ.set i (some (.ref a))) H
section
variable {X : Cx} {x1 x2 n : Str} {c1 c2 : Value} {i j : Nat} {body suite : List Stmt} {b₀ : Stmt} {q1 q2 q3 pos pos' : Pos} {tb : WX → TS} {ts : Addr → Value → Option Addr → TS}
theorem ps_try_two (hs : X.stack = X.env :: X.outer) (hf : X.env.frame = some X.env.locals) (hN : X.N.Nodup) (hi : X.N[i]? = some n) (hln : X.env.kindOf n = some .local)
    (g1 : Gl X x1) (d1 : (x1 == ("__debug__" : Str)) = false) (m1 : X.mg x1 = some c1) (g2 : Gl X x2) (d2 : (x2 == ("__debug__" : Str)) = false) (m2 : X.mg x2 = some c2)
    (hb : ∀ (W : WX) (pn : List (Addr × Obj)) (xe : Value → Shared → Prop), Takes (X.tr pn xe) W → PSs (X.tr pn xe) body (tb W))
    (hsu : ∀ (a : Addr) (oe : Obj) (cls : Value) (d : Option Addr) (pn : List (Addr × Obj)), Zc cls d oe → (∃ vs, oe.data = .fields vs) → PSs (X.suite a ((a, oe) :: pn)) (b₀ :: suite) (ts a cls d)) :
    PS X (.Try body [.ExceptHandler (some (.Tuple [.Name x1 q1, .Name x2 q2] j q3)) (some n) (b₀ :: suite) pos'] [] [] pos) (fun D σ H => tb (wTwo X.K c1 c2 i ts D) D σ H) := by
  constructor
  intro pins s σ H D I h
  have ok := I.ok
  refine wpAny_Try_except (wpAny_mono ((hb (wTwo X.K c1 c2 i ts D) (X.pn ++ pins) _ ?tk).run [] s σ H D (I.toTry _) h) ?_ fun e s1 he => he)
  case tk =>
    rintro u s' ⟨a, B, sI, pins', σ', H', cls, d, rfl, J', nb, up, sky, na, os, ag, ex, want⟩
    have J : Inv X pins σ' H' sI := J'.ofTry ok
    have hfr : X.A.frames = some (X.env :: X.outer) := by rw [ok.frames, hs]
    rw [show (X.tr (X.pn ++ pins) _).stack = X.env :: X.outer from hs] at sky
    show wpAny (model X.prog X.w) X.A (noteFrame (.ref a) X.env) _ _ _
    refine Sky.land Zc.steady hfr hf sky fun h3 fl3 up3 => ?_
    have J3 : Inv X pins σ' H' { s' with heap := h3 } := J.landed nb fl3.1 (up.trans up3) os ag
    obtain ⟨oe3, vs3, he3, hz3, hd3⟩ := fl3.there
    -- the exception is no frame
    have off : a ∉ frs (X.env :: X.outer) := fun hm => by
      obtain ⟨_, o', e', hnf⟩ := fl3.2.2.1.mem hm
      rw [he3] at e'
      cases e'
      exact hnf _ hd3
    have nL : a ≠ X.env.locals := fun z => off (List.mem_filterMap.mpr ⟨X.env, List.mem_cons_self, by rw [hf, z]⟩)
    have nF : a ∉ X.fs := fun hm => by
      obtain ⟨e, he, q⟩ := List.mem_filterMap.mp hm
      exact off (List.mem_filterMap.mpr ⟨e, List.mem_cons_of_mem _ he, q⟩)
    have S3 := J3.suite he3 hd3 na nL nF
    refine PySem.W.exc_clause_as ?_
    refine wpAny_Tuple (wpAny_items_cons (ld_glob (X := X.suite a ((a, oe3) :: (X.pn ++ pins))) S3 g1 m1 ?_ d1))
    refine wpAny_items_cons (ld_glob (X := X.suite a ((a, oe3) :: (X.pn ++ pins))) S3 g2 m2 ?_ d2)
    refine wpAny_items_nil ⟨by size_fits, ?_⟩
    have kp : ∀ q o, h3.get? q = some o → (h3.push { cls := .type "tuple", data := .seq [c1, c2].toArray }).get? q = some o := fun _ _ z => Heap.get?_push_of_some _ z
    have LT : PySem.W.Looks (model X.prog X.w) h3 (typeOf (.ref a)) cls := fun A Q E s k q => wpAny_typeOf_ref (k _ _ he3) (by rw [hz3.1]; exact q)
    refine ⟨true, PySem.W.exm_tup2 (J3.kIn.keeps kp) (LT.keeps kp) (Heap.get?_push_size h3 rfl) ex, ?_⟩
    rw [if_pos rfl]
    have up3' := (up.trans up3).trans (Heap.UpToSlots.of_keeps kp)
    refine HandSPX.lands_againZ (PySem.XG.fly_on fl3 kp) fun h4 fl4 up4 => ?_
    have J4 : Inv X pins σ' H' { s' with heap := h4 } := J.landed nb fl4.1 (up3'.trans up4) os ag
    obtain ⟨oe4, vs4, he4, hz4, hd4⟩ := fl4.there
    have S4 := J4.suite he4 hd4 na nL nF
    refine store_ok (X := X.suite a ((a, oe4) :: (X.pn ++ pins))) (v := .ref a) S4 hN hi (.inl hln) rfl (fun s5 S5 => ?_) (.inr hln)
    refine wpAny_mono ((hsu a oe4 cls d (X.pn ++ pins) hz4 ⟨_, hd4⟩).run [] s5 _ H' _ S5 (want a na (by rw [J.len]; exact (List.getElem?_eq_some_iff.mp hi).1))) (fun f s6 hsp => ?_) fun _ _ z => False.elim z
    have gone : ∀ {σ6 : St} {H6 : Hp} {Q : Shared → Prop}, Inv (X.suite a ((a, oe4) :: (X.pn ++ pins))) [] σ6 H6 s6 → (∀ s7, Inv X pins (σ6.set i none) H6 s7 → Q s7) →
        wpAny (model X.prog X.w) X.A (do bindName X.env n .none; unbindBehindTheSuite X.env n pos') (fun _ s7 => Q s7) X.xe s6 := fun S6 hq => gone_ok (S6.unsuite ok) hN hi hln hq
    cases f with
    | ret u =>
      obtain ⟨v6, σ6, H6, S6, r6, q6⟩ := hsp
      exact gone S6 fun s7 J7 => ⟨_, _, _, J7, r6, q6⟩
    | next =>
      obtain ⟨σ6, H6, S6, q6⟩ := hsp
      exact gone S6 fun s7 J7 => ⟨_, _, J7, q6⟩
    | brk =>
      obtain ⟨σ6, H6, S6, q6⟩ := hsp
      exact gone S6 fun s7 J7 => ⟨_, _, J7, q6⟩
    | cont =>
      obtain ⟨σ6, H6, S6, q6⟩ := hsp
      exact gone S6 fun s7 J7 => ⟨_, _, J7, q6⟩
  · intro f s1 hsp
    cases f with
    | next =>
      obtain ⟨σ', H', J', q⟩ := hsp
      exact wpAny_execs_nil ⟨σ', H', J'.ofTry ok, q⟩
    | ret u =>
      obtain ⟨v, σ', H', J', r, q⟩ := hsp
      exact ⟨v, σ', H', J'.ofTry ok, r, q⟩
    | brk =>
      obtain ⟨σ', H', J', q⟩ := hsp
      exact ⟨σ', H', J'.ofTry ok, q⟩
    | cont =>
      obtain ⟨σ', H', J', q⟩ := hsp
      exact ⟨σ', H', J'.ofTry ok, q⟩
end
end L2
/-! what the laws' proofs share about errors: their promises, the fields, a lambda called in a try -/
namespace Th
open PySem PySem.Spec PyProof.Rows L2
/-! ### what stays but for tables of code and exceptions being made -/
def Plain (o : HO) : Prop := (∀ φ, o ≠ .ext φ) ∧ ∀ ps, o ≠ .tbl ps
def KeepD (H H' : Hp) : Prop := ∀ b o, H b = some o → Plain o → H' b = some o
theorem KeepD.of {H H' : Hp} (s : Same H H') : KeepD H H' := fun b o e _ => s b o e
theorem KeepD.trans {H H1 H2 : Hp} (a : KeepD H H1) (b : KeepD H1 H2) : KeepD H H2 := fun c o e p => b c o (a c o e p) p
theorem KeepD.refl (H : Hp) : KeepD H H := fun _ _ e _ => e
theorem keepD_ext {H H' : Hp} (e : LamX.ExtN H H') : KeepD H H' := fun b o h p => e b o h p.2
theorem plain_lst (xs : List V) : Plain (.lst xs) := ⟨fun φ z => (by cases z), fun ps z => (by cases z)⟩
theorem plain_tup (xs : List V) : Plain (.tup xs) := ⟨fun φ z => (by cases z), fun ps z => (by cases z)⟩
theorem plain_frz (o : Obj) (u : HO) : Plain (.frz o u) := ⟨fun φ z => (by cases z), fun ps z => (by cases z)⟩
theorem plain_ins (C dx : Addr) (fs : List (Str × V)) : Plain (.ins C dx fs) := ⟨fun φ z => (by cases z), fun ps z => (by cases z)⟩
theorem plain_dK (kvs : List (Key × V)) : Plain (.dK kvs) := ⟨fun φ z => (by cases z), fun ps z => (by cases z)⟩
theorem plain_dT (kvs : List (List Key × V)) : Plain (.dT kvs) := ⟨fun φ z => (by cases z), fun ps z => (by cases z)⟩
theorem plain_set (S : Int → Bool) (n : Nat) : Plain (.set S n) := ⟨fun φ z => (by cases z), fun ps z => (by cases z)⟩
section
variable {K : PySem.W.Frag} {H H' : Hp}
theorem KeepD.l (e : KeepD H H') {a : Addr} {xs : List V} (h : SqL K H a xs) : SqL K H' a xs := by
  rcases h with (h | ⟨o, h⟩) | h
  · exact .inl (.inl (e _ _ h (plain_lst xs)))
  · exact .inl (.inr ⟨o, e _ _ h (plain_frz o _)⟩)
  · exact .inr h
theorem KeepD.t (e : KeepD H H') {a : Addr} {xs : List V} (h : SqT K H a xs) : SqT K H' a xs := by
  rcases h with (h | ⟨o, h⟩) | h
  · exact .inl (.inl (e _ _ h (plain_tup xs)))
  · exact .inl (.inr ⟨o, e _ _ h (plain_frz o _)⟩)
  · exact .inr h
theorem KeepD.ty (e : KeepD H H') {v : V} {t : Value} (h : TyX K H v t) : TyX K H' v t := by
  cases h with
  | byt b => exact .byt b
  | kList h c => exact .kList h c
  | kTuple h c => exact .kTuple h c
  | kDict h c => exact .kDict h c
  | set h => exact .set (e _ _ h (plain_set _ _))
  | fTuple h => exact .fTuple (e _ _ h (plain_frz _ _))
  | fDict h => exact .fDict (e _ _ h (plain_frz _ _))
  | base b =>
    refine .base ?_
    cases b with
    | non => exact .non
    | bl x => exact .bl x
    | int i => exact .int i
    | str x => exact .str x
    | flt x => exact .flt x
    | lst h => exact .lst (e _ _ h (plain_lst _))
    | frz h => exact .frz (e _ _ h (plain_frz _ _))
    | tup h => exact .tup (e _ _ h (plain_tup _))
    | dK h => exact .dK (e _ _ h (plain_dK _))
    | dT h => exact .dT (e _ _ h (plain_dT _))
    | ins h cl ha hn htk hm => exact .ins (e _ _ h (plain_ins _ _ _)) cl ha hn htk hm
mutual
theorem Da.keepD (e : KeepD H H') : ∀ (d : PyData) (v : V), Da K H v d → Da K H' v d
  | .none, _, h => by cases h; exact .non
  | .bool b, _, h => by cases h; exact .bl b
  | .int i, _, h => by cases h; exact .int i
  | .str x, _, h => by cases h; exact .str x
  | .list ds, _, h => by
    cases h with
    | lst hs ht ha => exact .lst (e.l hs) (e.ty ht) (DaAll.keepD e ds _ ha)
  | .tuple ds, _, h => by
    cases h with
    | tup hs ht ha => exact .tup (e.t hs) (e.ty ht) (DaAll.keepD e ds _ ha)
  | .dict _, _, h => by cases h
theorem DaAll.keepD (e : KeepD H H') : ∀ (ds : List PyData) (vs : List V), DaAll K H vs ds → DaAll K H' vs ds
  | [], _, h => by cases h; exact .nil
  | d :: ds, _, h => by
    cases h with
    | cons h1 h2 => exact .cons (Da.keepD e d _ h1) (DaAll.keepD e ds _ h2)
end
theorem Da.kd {v : V} {d : PyData} (h : Da K H v d) (e : KeepD H H') : Da K H' v d := Da.keepD e d v h
end
theorem KeepD.drw {D : DS} {H H' : Hp} (e : KeepD H H') (d : Drw D H) : Drw D H' := by
  obtain ⟨ne, sc, few, i, v, m, c, st, r⟩ := d
  exact ⟨ne, e _ _ sc (plain_lst _), few, i, v, m, c, e _ _ st (plain_lst _), r⟩
theorem KeepD.go {D : DS} {H H' : Hp} (d : Drw D H) (g : Go D H H') {a : Addr} {o : HO} (h : H a = some o) (ne : a ≠ D.p) : H' a = some o := g.old ne h
theorem Tabs.sm {T : List (Addr × Str)} {H H' : Hp} (t : LamX.Tabs T H) (s : Same H H') : LamX.Tabs T H' := t.ext fun b o e => s b o e
theorem Tabs.go {T : List (Addr × Str)} {D : DS} {H H' : Hp} (t : LamX.Tabs T H) (d : Drw D H) (g : Go D H H') : LamX.Tabs T H' := fun p hp => by
  obtain ⟨ps, h1, h2, h3⟩ := t p hp
  obtain ⟨_, _, _, i, v, m, c, st, _⟩ := d
  have n1 : p.1 ≠ D.p := fun z => by
    rw [z, st] at h1
    cases h1
  refine ⟨ps, g.old n1 h1, h2, fun pos cv hc => ?_⟩
  obtain ⟨c', e1, e2⟩ := h3 pos cv hc
  have n2 : c' ≠ D.p := fun z => by
    rw [z, st] at e2
    unfold LamX.CodeO at e2
    cases e2
  exact ⟨c', e1, g.old n2 e2⟩

/-! ### errors -/
/-- an error that flies: its class by name, its fields -/
structure IsExc (K : PySem.W.Frag) (mg : Str → Option Value) (code : Str) (fs : List (Str × V)) (cls : Value) (d : Option Addr) (H : Hp) : Prop where
  ex : ∃ C dd : Addr, cls = .ref C ∧ d = some dd ∧ XfC K C ∧ (∀ f ∈ fs.map (·.1), PySem.W.findIn K (.ref C) f = some none) ∧ H dd = some (.xd fs) ∧
    ∀ c1 c2, mg "FindError" = some (.ref c1) → mg "Missing" = some (.ref c2) → PySem.W.exmAny K cls [.ref c1, .ref c2] = some true
  code : fs.lookup ("code" : Str) = some (V.str code)
/-- an error class of the program; st: its __init__ -/
structure ErrC (K : PySem.W.Frag) (mg : Str → Option Value) (x : Str) (qual : Str) (st : Stmt) (ps : List Str) (fns : List Str) (C fI : Addr) (fd : FuncData) : Prop where
  m : mg x = some (.ref C)
  g : ExG K C
  xf : XfC K C
  nf : ∀ f ∈ fns, PySem.W.findIn K (.ref C) f = some none
  ini : PySem.W.findIn K (.ref C) "__init__" = some (some (.ref fI))
  tI : PySem.W.typeIn K (.ref fI) = some (.type "function")
  F : Fun K "__init__" qual st fI fd
  b : Binds K fd ps []
  ca : ∀ c1 c2, mg "FindError" = some (.ref c1) → mg "Missing" = some (.ref c2) → PySem.W.exmAny K (.ref C) [.ref c1, .ref c2] = some true
/-- __init__(self, v): self.fld = _copied(v); self.code = code -/
def spInit1 (K : PySem.W.Frag) (code fld : Str) (n : Nat) : Sp := fun vs H Q _ => ∃ (a C : Addr) (v : V) (d : PyData), vs = [.ref a, v] ∧ ExG K C ∧ PySem.W.findIn K (.ref C) fld = some none ∧ PySem.W.findIn K (.ref C) "code" = some none ∧ H a = some (exo a C none) ∧ Da K H v d ∧ LvN n d ∧
  ∀ (H1 : Hp) (v' : V) (dx : Addr), Same H H1 → Da K H1 v' d → H1 dx = none → dx ≠ a → Q .non (upd (upd (upd H1 dx (exd dx [(fld, v')])) a (exo a C (some dx))) dx (exd dx [("code", .str code), (fld, v')]))
theorem new1 {K : PySem.W.Frag} {mg : Str → Option Value} {x qual fld : Str} {st : Stmt} {ps fns : List Str} {C fI : Addr} {fd : FuncData} {n : Nat} {H : Hp} {v : V} {d : PyData} {W : XK} (E : ErrC K mg x qual st ps fns C fI fd) (h1 : fld ∈ fns) (h2 : ("code" : Str) ∈ fns) (hv : Da K H v d) (lv : LvN n d)
    (q : ∀ cls dd v' H', Same H H' → IsExc K mg x [("code", .str x), (fld, v')] cls dd H' → Da K H' v' d → W cls dd H') :
    ([v] : List V).length ≤ 1000 ∧ ∀ a, H a = none → spInit1 K x fld n (.ref a :: [v]) (upd H a (exo a C none)) (fun v H2 => v = .non ∧ ∃ (d : Addr) (fs : List (Str × V)), H2 a = some (exo a C (some d)) ∧ H2 d = some (exd d fs) ∧ H d = none ∧ W (.ref C) (some d) (upd (del H2 a) d (.xd fs))) (fun _ _ _ => False) := by
  refine ⟨by show 1 ≤ 1000; decide, fun a na => ⟨a, C, v, d, rfl, E.g, E.nf _ h1, E.nf _ h2, upd_same, hv.to (same_new na), lv, fun H1 v' dx s hv' nd ne => ?_⟩⟩
  have ea := s _ _ (upd_same (H := H) (a := a) (o := exo a C none))
  have nH : H dx = none := by
    cases e : H dx with
    | none => rfl
    | some o =>
      have := s dx o (by rw [upd_ne ne]; exact e)
      rw [nd] at this
      cases this
  refine ⟨rfl, dx, _, ?_, upd_same, nH, q _ _ v' _ (fun b o e => ?_) ⟨⟨C, dx, rfl, rfl, E.xf, fun f hf => ?_, upd_same, E.ca⟩, rfl⟩ ?_⟩
  · rw [upd_ne ne.symm, upd_same]
  · have nb : b ≠ a := fun z => by rw [z, na] at e; cases e
    have nb2 : b ≠ dx := fun z => by rw [z, nH] at e; cases e
    rw [upd_ne nb2, del_ne nb, upd_ne nb2, upd_ne nb, upd_ne nb2]
    exact s b o (by rw [upd_ne nb]; exact e)
  · rcases List.mem_cons.mp hf with e | m
    · rw [e]; exact E.nf _ h2
    · rw [List.mem_singleton.mp m]; exact E.nf _ h1
  · refine hv'.kd fun b o e p => ?_
    have nb : b ≠ a := fun z => by
      rw [z, ea] at e
      exact p.1 _ (Option.some.inj e).symm
    have nb2 : b ≠ dx := fun z => by rw [z, nd] at e; cases e
    rw [upd_ne nb2, del_ne nb, upd_ne nb2, upd_ne nb, upd_ne nb2]
    exact e
/-- what a def promises that may raise -/
def HasX (P : Program) (w : World) (K : PySem.W.Frag) (mg : Str → Option Value) (base : Heap) (x : Str) (st : Stmt) (k : Nat) (ps : List Str) (sp : Sp) : Prop :=
  ∃ (f : Addr) (fd : FuncData), FnOk P w K mg base (L2.CX P w) k f fd ps sp ∧ mg x = some (.ref f) ∧ PySem.W.keepIn K (.ref f) = true ∧ Binds K fd ps [] ∧ Fun K x x st f fd
def HasQ (P : Program) (w : World) (K : PySem.W.Frag) (mg : Str → Option Value) (base : Heap) (x : Str) (st : Stmt) (k : Nat) (ps : List Str) (sp : Addr × Obj → Sp) : Prop :=
  ∃ (f : Addr) (fd : FuncData), FnQ P w K mg base k f fd ps sp ∧ mg x = some (.ref f) ∧ PySem.W.keepIn K (.ref f) = true ∧ Binds K fd ps [] ∧ Fun K x x st f fd
def HasE (P : Program) (w : World) (K : PySem.W.Frag) (mg : Str → Option Value) (base : Heap) (x qual : Str) (st : Stmt) (ps fns : List Str) (k : Nat) (sp : Sp) : Prop :=
  ∃ (C fI : Addr) (fd : FuncData), ErrC K mg x qual st ps fns C fI fd ∧ FnOk P w K mg base CX0 k fI fd ps sp
theorem passF {X : Cx} : Passes (L2.CX X.prog X.w) X E0 := fun _ _ _ _ _ _ _ h => by
  obtain ⟨_, _, _, _, _, _, _, _, _, _, _, _, z⟩ := h
  exact z.elim
/-- what a try tells of an error: the word, its code, then its fields as Fl says -/
def TTry (K : PySem.W.Frag) (mg : Str → Option Value) (Fl : Str → List (Str × V) → List V → Prop) : (XK → Hp → VK → Prop) → Hp → VK → Prop := fun tl H Q =>
  tl (fun cls d H' => ∃ code fs ws, IsExc K mg code fs cls d H' ∧ Fl code fs ws ∧ ws.length ≤ 1000 ∧ ∀ r H'', Same H' H'' → H' r = none → H'' r = some (.tup (.str "no" :: .str code :: ws)) → Q (.ref r) H'')
    H fun v H1 => ([.str "told", v] : List V).length ≤ sizeLine ∧ ∀ r, H1 r = none → Q (.ref r) (upd H1 r (.tup [.str "told", v]))
/-- the fields of an error in hand, in a tuple -/
def spFields (K : PySem.W.Frag) (mg : Str → Option Value) (Fl : Str → List (Str × V) → List V → Prop) : Addr × Obj → Sp := fun p vs H Q _ => ∃ (C dd : Addr) (code : Str) (fs : List (Str × V)) (ws : List V), vs = [.ref p.1] ∧ PinX p C dd ∧ IsExc K mg code fs (.ref C) (some dd) H ∧ Fl code fs ws ∧ ws.length ≤ 1000 ∧
  ∀ r H', Same H H' → H r = none → H' r = some (.tup ws) → Q (.ref r) H'
end Th
namespace Th
open PySem PySem.Spec PyProof.Rows L2
/-! ### some objects hidden -/
open Classical in
noncomputable def hidS (S : Addr → Prop) (H : Hp) : Hp := fun b => if S b then none else H b
theorem hidS_in {S : Addr → Prop} {H : Hp} {b : Addr} (h : S b) : hidS S H b = none := if_pos h
theorem hidS_out {S : Addr → Prop} {H : Hp} {b : Addr} (h : ¬ S b) : hidS S H b = H b := if_neg h
theorem hidS_some {S : Addr → Prop} {H : Hp} {b : Addr} {o : HO} (h : hidS S H b = some o) : ¬ S b ∧ H b = some o := by
  by_cases z : S b
  · rw [hidS_in z] at h
    cases h
  · rw [hidS_out z] at h
    exact ⟨z, h⟩
theorem hidS_same {S : Addr → Prop} {H : Hp} : Same (hidS S H) H := fun _ _ h => (hidS_some h).2
theorem hidS_mono {S : Addr → Prop} {H H' : Hp} (s : Same H H') : Same (hidS S H) (hidS S H') := fun b o h => by
  obtain ⟨n, e⟩ := hidS_some h
  rw [hidS_out n]
  exact s b o e
/-- one more is hidden, which was not there -/
theorem hidS_more {S : Addr → Prop} {H H' : Hp} {L : Addr} (s : Same H H') (n : H L = none) : Same (hidS S H) (hidS (fun b => S b ∨ b = L) H') := fun b o h => by
  obtain ⟨nb, e⟩ := hidS_some h
  have nL : b ≠ L := fun z => by rw [z, n] at e; cases e
  rw [hidS_out (fun z => z.elim nb nL)]
  exact s b o e
theorem hidS_less {S : Addr → Prop} {H : Hp} {L : Addr} : Same (hidS (fun b => S b ∨ b = L) H) (hidS S H) := fun b o h => by
  obtain ⟨nb, e⟩ := hidS_some h
  rw [hidS_out fun z => nb (.inl z)]
  exact e
theorem hidS_upd {S : Addr → Prop} {H : Hp} {L : Addr} {o : HO} : hidS (fun b => S b ∨ b = L) (upd H L o) = hidS (fun b => S b ∨ b = L) H := by
  funext b
  by_cases z : S b ∨ b = L
  · rw [hidS_in z, hidS_in z]
  · rw [hidS_out z, hidS_out z, upd_ne fun e => z (.inr e)]
end Th
namespace Th
open PySem PySem.Spec PyProof.Rows L2
def tPinA (K : PySem.W.Frag) (i : Nat) (a : Addr) (cls : Value) (d : Option Addr) (n : Str) : TE := fun σ H Q => σ[i]? = some (some (.ref a)) ∧ ∃ (C dd : Addr) (fs : List (Str × V)) (v : V), cls = .ref C ∧ d = some dd ∧ XfC K C ∧ PySem.W.findIn K (.ref C) n = some none ∧ H dd = some (.xd fs) ∧ fs.lookup n = some v ∧ Q v H
def tFieldsA (K : PySem.W.Frag) (mg : Str → Option Value) (Fl : Str → List (Str × V) → List V → Prop) (i : Nat) (a : Addr) (cls : Value) (d : Option Addr) : TE := fun σ H Q => σ[i]? = some (some (.ref a)) ∧ ∃ (C dd : Addr) (code : Str) (fs : List (Str × V)) (ws : List V), cls = .ref C ∧ d = some dd ∧ IsExc K mg code fs (.ref C) (some dd) H ∧ Fl code fs ws ∧ ws.length ≤ 1000 ∧ ∀ r H', Same H H' → H r = none → H' r = some (.tup ws) → Q (.ref r) H'
section
variable {X : Cx} {a : Addr} {oe : Obj} {cls : Value} {d : Option Addr} {e : Expr} {n : Str} {i : Nat} {pos q : Pos}
/-- in the clause's suite: the caught error's field -/
theorem pe_pinA (hp : (a, oe) ∈ X.pn) (hz : Zc cls d oe) (hf : ∃ vs, oe.data = .fields vs) (he : PE X e (tVar i)) (hb : attributeBase e n X.env (eval e X.env) = eval e X.env := by rfl) :
    PE X (.Attribute e n pos) (tPinA X.K i a cls d n) := by
  constructor
  rintro pins s σ H Q I ⟨h0, C, dd, fs, v, rfl, rfl, T, nf, ed, l, hq⟩
  exact (pe_pinf hp he hb).run pins s σ H Q I ⟨_, h0, rfl, C, dd, fs, v, ⟨hz, hf⟩, T, nf, ed, l, hq⟩
/-- .. its fields, told by a def -/
theorem pe_fieldsA {Fl : Str → List (Str × V) → List V → Prop} {k : Nat} {f : Addr} {fd : FuncData} {ps : List Str} {x : Str} (hp : (a, oe) ∈ X.pn) (hz : Zc cls d oe) (hf : ∃ vs, oe.data = .fields vs) (F : FnQ X.prog X.w X.K X.mg X.base k f fd ps (spFields X.K X.mg Fl)) (hr : L2H.RoomH k X.A) (hg : Gl X x) (hm : X.mg x = some (.ref f)) (hk : PySem.W.keepIn X.K (.ref f) = true) (hb : Binds X.K fd ps [])
    (he : PA X [e] (tCons (tVar i) tNil)) (hdb : (x == ("__debug__" : Str)) = false := by decide) (hs : starEach [e] X.env = (false, eval e X.env) :: starEach [] X.env := by rfl) (hpl : (backTo pos (starEach [] X.env)).any (·.1) = false := by rfl) :
    PE X (.Call (.Name x q) [e] [] pos) (tFieldsA X.K X.mg Fl i a cls d) := by
  constructor
  rintro pins s σ H Q I ⟨h0, C, dd, code, fs, ws, rfl, rfl, E, fl, lw, hq⟩
  exact (pe_callQ (p := (a, oe)) hp F hr hg hm hk hb he hdb hs hpl).run pins s σ H Q I ⟨_, h0, C, dd, code, fs, ws, rfl, ⟨hz, hf⟩, E, fl, lw, hq⟩
end
end Th
namespace Th
open PySem PySem.Spec PyProof.Rows L2
/-- a def whose code object is known -/
theorem okC {P : Program} {w : World} {K : PySem.W.Frag} {mg : Str → Option Value} {base : Heap} {x qual : Str} {st : Stmt} {f c : Addr} {fd : FuncData} {N ps : List Str} {k : Nat} {sp : Sp} (F : Fun K x qual st f fd) (hc : fd.code = .ref c) (S : FnScope N ps (defScope st)) (len : ∀ vs H Q E, sp vs H Q E → vs.length = ps.length)
    (hbody : ∀ (A : Around) (outer : List Env) (s : Shared) (H : Hp) (vs : List V) (Q : VK) (E : XK), Room k (A.deeper (envOfC qual (defScope st) s.heap.objs.size f (.ref c))) → sp vs H Q E →
      ∃ t, PSs (cxOf CX0 P w K mg base N qual (defScope st) f (.ref c) A outer s H E).nox (defBody st) t ∧ t { nx := fun _ H' => Q .non H', rt := Q } (L2.start N vs) H) : FnOk P w K mg base CX0 (k + 1) f fd ps sp := by
  obtain ⟨oc, od, kV, doc, pm, an, cdv, ct, osl, rfl, lk, hcd⟩ := F.ex
  obtain rfl : cdv = .ref c := hc
  refine fn_of lk hcd S len fun A outer s H vs Q E hr hsp => ?_
  obtain ⟨t, h, q⟩ := hbody A outer s H vs Q E hr hsp
  exact ⟨t, h.nox, q⟩
/-- f(lambda: body), f the def that tries -/
theorem pe_try {X : Cx} {x a : Str} {st : Stmt} {g c P : Addr} {fdg : FuncData} {k : Nat} {Ng : List Str} {TT : (XK → Hp → VK → Prop) → Hp → VK → Prop} {params : Arguments} {body : Expr} {scope : Scope} {t : XK → TE} {p lpos pos : Pos} (Fg : Fun X.K x x st g fdg) (hm : X.mg x = some (.ref g)) (hb : Binds X.K fdg [a] []) (hg : Gl X x)
    (Sg : FnScope Ng [a] (defScope st)) (hNg : Ng[0]? = some a) (hva : Vis (defScope st) a) (hG : ∀ (cdg : Value), LamX.GivesTo X Ng x (defScope st) g cdg (defBody st) a (X.env.qual ++ "<lambda>") TT)
    (TB : LamX.TabB X.base X.mg c P) (hcode : X.env.code = .ref c) (hr : Room (k + 2) X.A) (L : LamX.LamS X.env.scope scope) (hdef : defaultsOf params X.env = ([], []))
    (hbind : ∀ (q : Str) (cl : List (Str × Addr)) (pm cv ctv : Value), bindArgs (PySem.W.kla_fn "<lambda>" q params body scope cl pm cv ctv) ⟨[], []⟩ = pure [])
    (hbody : ∀ (A : Around) (outer : List Env) (s : Shared) (H : Hp) (E : XK) (f c' : Addr), Room k (A.deeper (LamX.lamEnv X scope s.heap.objs.size f c')) → PE (LamX.lamCx X A outer s H E scope f c') body (t E))
    (hdb : (x == ("__debug__" : Str)) = false := by decide) (hd : (a == ("__debug__" : Str)) = false := by decide) (hcd : (a == ("__classdict__" : Str)) = false := by decide) :
    PE X (.Call (.Name x p) [.Lambda params body scope lpos] [] pos) (LamX.tLam [(P, X.env.qual ++ "<lambda>")] TT t) := by
  obtain ⟨oc, od, kV, doc, pm, an, cdv, ct, osl, rfl, lk, hco⟩ := Fg.ex
  exact LamX.pe_lamcall (T := [(P, X.env.qual ++ "<lambda>")]) hg hm Fg.kp lk hco hb Sg hNg hva (hG _) TB hcode (List.mem_singleton.mpr rfl) (fun p hp _ => by rw [List.mem_singleton.mp hp]) hr L hdef hbind hbody hdb hd hcd
end Th
/-! x in a tuple, x any datum -/
namespace L2
open PySem PySem.Spec PyProof.Rows
theorem hu65 {A : Around} {k : Nat} (hr : Room k A) : A.units + 65 < cLine := by
  have := hr.un
  omega
def rInT (K : PySem.W.Frag) (neg : Bool) : R2 := fun x y H Q => ∃ d ds, Dp K H x d ∧ Dp K H y (.tuple ds) ∧ SeqAt.shaped d = true ∧ SeqAt.shaped (.tuple ds) = true ∧ Q (.bl (if neg then !ds.any fun z => PyData.eqv z d else ds.any fun z => PyData.eqv z d)) H
section
variable {X : Cx}
theorem op_inT (hu : X.A.units + 65 < cLine) : OpR X (compareOp .In) (rInT X.K false) := by
  intro pins s σ H x y v u Q I rx ry h
  obtain ⟨d, ds, hd, he, sd, se, q⟩ := h
  obtain ⟨as, r1⟩ := Dp.reads I d x v hd rx
  obtain ⟨bs, r2⟩ := Dp.reads I (.tuple ds) y u he ry
  exact SeqAt.in_tuple_reads r2 r1 (SeqAt.canLay_of_shaped se) (SeqAt.canLay_of_shaped sd) (room_in_shaped sd hu) ⟨.bl _, H, I, rfl, q⟩
theorem op_notInT (hu : X.A.units + 65 < cLine) : OpR X (compareOp .NotIn) (rInT X.K true) := by
  intro pins s σ H x y v u Q I rx ry h
  obtain ⟨d, ds, hd, he, sd, se, q⟩ := h
  obtain ⟨as, r1⟩ := Dp.reads I d x v hd rx
  obtain ⟨bs, r2⟩ := Dp.reads I (.tuple ds) y u he ry
  exact SeqAt.notIn_tuple_reads r2 r1 (SeqAt.canLay_of_shaped se) (SeqAt.canLay_of_shaped sd) (room_in_shaped sd hu) ⟨.bl _, H, I, rfl, q⟩
end
end L2
namespace Th
open PySem PySem.Spec PyProof.Rows L2
/-- a datum is one of these texts -/
def inNm (d : PyData) (xs : List Str) : Bool := match d with
  | .str x => decide (x ∈ xs)
  | _ => false
theorem any_nm (d : PyData) (nd : tyD d ≠ "dict") : ∀ xs : List Str, ((xs.map PyData.str).any fun z => PyData.eqv z d) = inNm d xs
  | [] => by cases d <;> rfl
  | x :: r => by
    rw [List.map_cons, List.any_cons, any_nm d nd r]
    cases d with
    | dict kvs => exact absurd rfl nd
    | str y =>
      have e : PyData.eqv (.str x) (.str y) = decide (x = y) := by
        have e2 : (x == y) = decide (x = y) := by rw [Bool.eq_iff_iff, beq_iff_eq, decide_eq_true_eq]
        rw [← e2]
        simp [PyData.eqv]
      rw [e]
      show (decide (x = y) || decide (y ∈ r)) = decide (y ∈ x :: r)
      by_cases h : x = y
      · simp [h]
      · have h' : ¬ y = x := fun z => h z.symm
        simp [h, h']
    | none => simp [PyData.eqv, inNm]
    | bool b => simp [PyData.eqv, inNm]
    | int b => simp [PyData.eqv, inNm]
    | list b => simp [PyData.eqv, inNm]
    | tuple b => simp [PyData.eqv, inNm]
end Th
/-! for i, x in enumerate(t), t a tuple -/
namespace PySem
namespace XG
open Sem (wp)
abbrev enumO (it : Addr) : Obj := { cls := .type "enumerate", data := .fields #[.none, .bool false, .ref it, rawInt 0, .none, .none] }
theorem meets_enum1 {v : Value} {o : Obj} {H : Heap → Prop} (B : Begins v o H) :
    Meets (Builtin.«enumerate.__new__» ⟨[.type "enumerate", v], []⟩) (fun _ R s => H s.heap ∧ R (.ok (.ret (.ref (s.heap.push o).objs.size))) { s with heap := (s.heap.push o).push (enumO s.heap.objs.size) }) :=
  .of_wp fun prog w A R s hh => by
    obtain ⟨hp, g, d, tk, os⟩ := s
    obtain ⟨h0, hr⟩ := hh
    have hsub := sub_enumerate
    have starts : ∀ {A' : Around} {E : Value → Shared → Prop} {Q : Value → Shared → Prop}, Q (.ref hp.objs.size) ⟨hp.push o, g, d, tk, os⟩ → wpAny (model prog w) A' (pyIter v) Q E ⟨hp, g, d, tk, os⟩ := fun q => B.iter prog w _ _ ⟨hp, g, d, tk, os⟩ _ h0 q
    wp_walk using starts
    refine wpAny_stack_any fun st => wpAny_pure ?_
    split
    case h_1 c _ _ _ _ _ =>
      cases (c == Value.type "enumerate") <;> (wp_walk using starts; exact ⟨_, rfl, hr⟩)
    case h_2 =>
      wp_walk using starts
      exact ⟨_, rfl, hr⟩
theorem call_enum1 {prog : Program} {w : World} {A : Around} {E : Value → Shared → Prop} {s : Shared} {v : Value} {o : Obj} {H : Heap → Prop} {Q : Value → Shared → Prop} (B : Begins v o H) (h0 : H s.heap)
    (h : ∀ h', IsEnum h' (s.heap.objs.size + 1) s.heap.objs.size 0 .none → h'.get? s.heap.objs.size = some o → (∀ b u, s.heap.get? b = some u → h'.get? b = some u) → Q (.ref (s.heap.objs.size + 1)) { s with heap := h' }) :
    wpAny (model prog w) A (call (.type "enumerate") [v]) Q E s := by
  refine callType_new F.called_enumerate (by decide) (F.typeCall_enumerate_1 _) (F.newCall_enumerate_1 _) (fun obj => F.args_object_init_2 obj _) F.entry_enumerate_new (meets_enum1 B) ⟨h0, ?_⟩
  have size : (s.heap.push o).objs.size = s.heap.objs.size + 1 := Heap.size_push ..
  have en : ((s.heap.push o).push (enumO s.heap.objs.size)).get? (s.heap.objs.size + 1) = some (enumO s.heap.objs.size) := by
    rw [← size]
    exact Heap.get?_push_size (s.heap.push o) (o := enumO s.heap.objs.size) rfl
  show _ ∧ _
  rw [size]
  exact ⟨⟨_, en, rfl⟩, h _ en (Heap.get?_push_of_some _ (Heap.get?_push_size _ B.free)) fun b u q => Heap.get?_push_of_some _ (Heap.get?_push_of_some _ q)⟩
end XG
end PySem
namespace L2
open PySem PySem.Spec PyProof.Rows
/-- the tuple at a, each item in a new pair with its place -/
def IteT (K : PySem.W.Frag) (a : Addr) : It :=
  ⟨fun i H => ∃ (xs : List V) (x : V), SqT K H a xs ∧ xs[i]? = some x, fun i H v H' => ∃ T x, v = .ref T ∧ H T = none ∧ H' = upd H T (.tup [.int (i : Nat), x]) ∧ ∀ xs, SqT K H a xs → xs[i]? = some x, fun i H => ∃ xs : List V, SqT K H a xs ∧ xs.length = i⟩
theorem turn_enumT {P : Program} {w : World} {K : PySem.W.Frag} {elts : List Expr} {kk : Nat} {tpos : Pos} (a e it : Addr) :
    Turn P w K (.Tuple elts kk tpos) (IteT K a) [e, it] e (fun i h => (∃ old, IsEnum h e it ((i : Nat) : Int) old) ∧ h.IsTupleIter it a i ∧ e ≠ it) where
  mem := List.mem_cons_self
  obj := fun i h st b hb => by
    obtain ⟨⟨old, he⟩, ⟨o, ho, _, hd⟩, _⟩ := st
    rcases List.mem_cons.mp hb with z | z
    · rw [z]
      exact ⟨_, he, fun v q => nomatch q⟩
    · rw [List.mem_singleton.mp z]
      exact ⟨o, ho, fun v q => by rw [hd] at q; cases q⟩
  keep := fun i h h' st k => by
    obtain ⟨⟨old, he⟩, hi, ne⟩ := st
    exact ⟨⟨old, k e (by simp) _ he⟩, hi.at fun o q => k it (by simp) o q, ne⟩
  item := by
    rintro X rfl rfl rfl hc i pins s σ H E I hf ⟨⟨old, he⟩, hit, ne⟩ ⟨xs, x, hq, hx⟩
    obtain ⟨its, rv, p, hz⟩ := I.tuple hq
    obtain ⟨u, hu, ru⟩ := rv.get hx
    have le : e < s.heap.objs.size := Heap.lt_size he
    have li : it < s.heap.objs.size := let ⟨_, q, _⟩ := hit; Heap.lt_size q
    have hT : s.heap.IsTuple a its.toArray := p
    have ait : a ≠ it := fun z => by
      obtain ⟨o1, q1, c1, _⟩ := hit
      obtain ⟨o2, q2, c2, _⟩ := hT
      rw [z, q1] at q2
      cases q2
      have c3 : Value.type "tuple_iterator" = Value.type "tuple" := c1.symm.trans c2
      exact absurd c3 (by decide)
    have aE : e ∉ [it, a] := fun z => by
      rcases List.mem_cons.mp z with z | z
      · exact ne z
      · rw [List.mem_singleton.mp z] at he
        obtain ⟨o2, q2, c2, _⟩ := hT
        rw [he] at q2
        cases q2
        have c3 : Value.type "enumerate" = Value.type "tuple" := c2
        exact absurd c3 (by decide)
    refine wpAny_pyNext_enum_itemD (Draws.tuple (prog := X.prog) (w := X.w) (A := X.A.in1) (show X.A.in1.handled = none from I.ok.hd hc) it a ait its.toArray) he ⟨hit, hT⟩ (by have := (List.getElem?_eq_some_iff.mp hu).1; simpa using this) ne aE fun y h' tk hy ho hs2 hnew hsz hk => ?_
    have ey : y = u := by
      have z1 : its.toArray[i]? = some y := hy
      have z2 : its.toArray[i]? = some u := by simpa using hu
      rw [z1] at z2
      exact Option.some.inj z2
    subst ey
    refine ⟨_, rfl, wpAny_letOwnedTupleGo_enum (s := { s with heap := h', toks := tk + 1 }) ho fun h2 he2 sb => ?_⟩
    have stands : h2.get? s.heap.objs.size = some { cls := .type "tuple", data := .seq #[.int i tk, y] } := (sb.2 _ (Nat.ne_of_gt le)).trans hnew
    have new : ObjOk X.prog X.w (upd H s.heap.objs.size (.tup [.int (i : Nat), x])) h2 s.heap.objs.size (.tup [.int (i : Nat), x]) :=
      ⟨by show 2 ≤ sizeLine; decide, [.int i tk, y], .cons ⟨_, rfl⟩ (.cons ru .nil), ⟨_, stands, rfl, _, rfl⟩⟩
    have fresh : H s.heap.objs.size = none := I.hok.fresh (Nat.le_refl _)
    have I1 : Inv X pins σ (upd H s.heap.objs.size (.tup [.int (i : Nat), x])) { s with heap := h2, toks := tk + 1 } :=
      I.turnedNew (ch := [e, it]) (fun b ob hb q => (sb.2 b (fun z => hb (by simp [z]))).trans (hk b ob (fun z => hb (by simp [z])) (fun z => hb (by simp [z])) q)) hf (Nat.le_refl _) new
    refine ⟨.ref s.heap.objs.size, _, I1, rfl, ⟨_, x, rfl, fresh, rfl, fun ys hy2 => ?_⟩, ⟨⟨y, ?_⟩, ?_, ne⟩, fun b hb => ?_⟩
    · rw [I.tuple_inj hy2 hq]
      exact hx
    · rw [show ((i + 1 : Nat) : Int) = (i : Int) + 1 by omega]
      exact he2
    · exact hs2.1.at fun o q => (sb.2 it (Ne.symm ne)).trans q
    · have lb : b < s.heap.objs.size := by
        rcases List.mem_cons.mp hb with z | z
        · rw [z]; exact le
        · rw [List.mem_singleton.mp z]; exact li
      rw [upd_ne (Nat.ne_of_lt lb)]
      exact (hf b hb).1
  done := by
    rintro X rfl rfl rfl hc i pins s σ H E I hf ⟨⟨old, he⟩, hit, ne⟩ ⟨xs, hq, hx⟩
    obtain ⟨its, rv, p, hz⟩ := I.tuple hq
    have hT : s.heap.IsTuple a its.toArray := p
    have hl : i = its.toArray.size := by rw [← hx, rv.length, List.size_toArray]
    obtain ⟨f0, f1, f2, f3, f4, f5⟩ := hf it (by simp)
    have ait : a ≠ it := fun z => by
      obtain ⟨o1, q1, c1, _⟩ := hit
      obtain ⟨o2, q2, c2, _⟩ := hT
      rw [z, q1] at q2
      cases q2
      have c3 : Value.type "tuple_iterator" = Value.type "tuple" := c1.symm.trans c2
      exact absurd c3 (by decide)
    rw [hl] at he hit
    exact wpAny_pyNext_enum_endD (Draws.tuple (prog := X.prog) (w := X.w) (A := X.A.in1) (show X.A.in1.handled = none from I.ok.hd hc) it a ait its.toArray) he ⟨hit, hT⟩ fun h' eb => ⟨rfl, I.turned (t' := s.toks) (fun b o hb q => eb b o hb q) f0 f1 f3 f4 f5⟩
  self := fun A i s Q E st h => let ⟨⟨_, he⟩, _⟩ := st; wpAny_pyIter_enum he h
def iEnumT (K : PySem.W.Frag) (ta : TA) : TI := fun σ H R => ta σ H fun vs H1 => ∃ a xs, vs = [.ref a] ∧ ((SqL K H1 a xs ∧ R (Ite K a) H1) ∨ (SqT K H1 a xs ∧ R (IteT K a) H1))
/-- enumerate of a list or a tuple -/
theorem pi_enumLT {X : Cx} {e : Expr} {ta : TA} {p pos tpos : Pos} {elts : List Expr} {kk : Nat} (hg : Gl X "enumerate") (hm : X.mg "enumerate" = none) (ha : PA X [e] ta) (hs : starEach [e] X.env = [(false, eval e X.env)] := by rfl) :
    PI X (.Tuple elts kk tpos) (.Call (.Name "enumerate" p) [e] [] pos) (iEnumT X.K ta) := by
  constructor
  intro pins s σ H R I h
  refine Call_ (ld_blt I hg hm boot_enumerate (PyProof.Rows.callWith_type1 (thn (ha.run pos pins s σ H _ I h) fun us s1 hu => ?_) hs rfl))
  obtain ⟨vs, H1, I1, r1, a, xs, ex, q⟩ := hu
  subst ex
  rw [Vals.ref1 r1]
  have new : ∀ b ∈ [s1.heap.objs.size + 1, s1.heap.objs.size], s1.heap.objs.size ≤ b := fun b hb => by
    rcases List.mem_cons.mp hb with z | z
    · rw [z]; exact Nat.le_add_right _ _
    · rw [List.mem_singleton.mp z]; exact Nat.le_refl _
  rcases q with ⟨hq, q⟩ | ⟨hq, q⟩
  · obtain ⟨its, rv, p', hz⟩ := I1.list hq
    refine call_enumerate_list p'.isList fun h' he hit hsz hk => wpAny_pyIter_enum he ?_
    exact ⟨s1.heap.objs.size + 1, [s1.heap.objs.size + 1, s1.heap.objs.size], _, _, H1, rfl, I1.kept (t' := s1.toks) hk, turn_enum a (s1.heap.objs.size + 1) s1.heap.objs.size, ⟨⟨.none, he⟩, hit, Nat.succ_ne_self _⟩, fun b hb => I1.fpOk (new b hb) (I1.hok.fresh (new b hb)), q⟩
  · obtain ⟨its, rv, p', hz⟩ := I1.tuple hq
    have hT : s1.heap.IsTuple a its.toArray := p'
    refine PySem.XG.call_enum1 (begins_tuple a its.toArray) hT fun h' he hit hk => wpAny_pyIter_enum he ?_
    exact ⟨s1.heap.objs.size + 1, [s1.heap.objs.size + 1, s1.heap.objs.size], _, _, H1, rfl, I1.kept (t' := s1.toks) hk, turn_enumT a (s1.heap.objs.size + 1) s1.heap.objs.size, ⟨⟨.none, he⟩, ⟨_, hit, rfl, rfl⟩, Nat.succ_ne_self _⟩, fun b hb => I1.fpOk (new b hb) (I1.hok.fresh (new b hb)), q⟩
end L2
namespace L2
open PySem PySem.Spec PyProof.Rows
theorem walk_enumT {K : PySem.W.Frag} {a : Addr} {xs : List V} : Walk (IteT K a) xs.length (fun H => SqT K H a xs) (YPair (fun i => some (.int (i : Nat))) (fun i => xs[i]?)) where
  goes := fun i H hi h => ⟨xs, xs[i], h, List.getElem?_eq_getElem hi⟩
  stops := fun H h => ⟨xs, h, rfl⟩
  yields := fun i H v H' hi h y => by
    obtain ⟨T, x, e1, e2, e3, e4⟩ := y
    exact ⟨T, _, x, e1, e2, e3, rfl, e4 xs h⟩
end L2
/-! tuples cut and joined, with one way on -/
namespace Th
open PySem PySem.Spec PyProof.Rows L2
/-- a tuple, its type known -/
def TupAt (K : PySem.W.Frag) (H : Hp) (a : Addr) (xs : List V) : Prop := SqT K H a xs ∧ TyX K H (.ref a) (.type "tuple")
theorem TupAt.to {K : PySem.W.Frag} {H H' : Hp} {a : Addr} {xs : List V} (h : TupAt K H a xs) (s : Same H H') : TupAt K H' a xs := ⟨same_t s h.1, ty_same s h.2⟩
theorem TupAt.new {K : PySem.W.Frag} {H : Hp} {a : Addr} {xs : List V} : TupAt K (upd H a (.tup xs)) a xs := ⟨.inl (.inl upd_same), .base (.tup upd_same)⟩
theorem TupAt.bare {K : PySem.W.Frag} {H : Hp} {a : Addr} {xs : List V} (h : BareT H a xs) : TupAt K H a xs := ⟨h.sq, bare_ty h⟩
theorem TupAt.da {K : PySem.W.Frag} {H : Hp} {a : Addr} {xs : List V} {ds : List PyData} (h : TupAt K H a xs) (r : DaAll K H xs ds) : Da K H (.ref a) (.tuple ds) := .tup h.1 h.2 r
theorem cutV_whole {xs : List V} {lo hi : Option Int} (h : HT.sIx xs.length 0 lo = 0 ∧ HT.sIx xs.length xs.length hi = xs.length) : cutV xs lo hi = xs := by
  unfold cutV
  rw [h.1, h.2, List.drop_zero, Nat.sub_zero, List.take_length]
/-- t[lo:hi] -/
def rSlD (K : PySem.W.Frag) : V → Option Int → Option Int → Hp → VK → Prop := fun x lo hi H Q => ∃ a xs, x = .ref a ∧ TupAt K H a xs ∧ ∀ r H', Same H H' → (r = a ∨ H r = none) → TupAt K H' r (cutV xs lo hi) → Q (.ref r) H'
theorem sl_tupD {X : Cx} : SlR X (rSlD X.K) := by
  intro pins s σ H x v vl vu lo hi sl Q I rx hs pl pu h
  obtain ⟨a, xs, rfl, ha, q⟩ := h
  exact sl_tupA pins s σ H _ v vl vu lo hi sl Q I rx hs pl pu ⟨a, xs, rfl, ha.1, fun w => q a H (Same.refl H) (.inl rfl) (by rw [cutV_whole w]; exact ha), fun _ p np => q p _ (same_new np) (.inr np) .new⟩
/-- t + u -/
def rCatD (K : PySem.W.Frag) : R2 := fun x y H Q => ∃ a b xs ys, x = .ref a ∧ y = .ref b ∧ TupAt K H a xs ∧ TupAt K H b ys ∧ xs.length + ys.length ≤ sizeLine ∧ ∀ r H', Same H H' → (r = a ∨ r = b ∨ H r = none) → TupAt K H' r (xs ++ ys) → Q (.ref r) H'
theorem op_catD {X : Cx} : OpR X (binaryOp .Add) (rCatD X.K) := by
  intro pins s σ H x y v u Q I rx ry h
  obtain ⟨a, b, xs, ys, rfl, rfl, ha, hb, hz, q⟩ := h
  refine op_catA pins s σ H _ _ v u Q I rx ry ⟨a, b, xs, ys, rfl, rfl, ha.1, hb.1, hz, fun e => ?_, fun _ e => ?_, fun _ _ p np => q p _ (same_new np) (.inr (.inr np)) .new⟩
  · exact q b H (Same.refl H) (.inr (.inl rfl)) (by rw [e]; exact hb)
  · exact q a H (Same.refl H) (.inl rfl) (by rw [e, List.append_nil]; exact ha)
theorem ty_hid {K : PySem.W.Frag} {p : Addr} {H : Hp} {v : V} {t : Value} (n : v ≠ .ref p) (h : TyX K H v t) : TyX K (hid p H) v t := by
  have k : ∀ {a : Addr} {o : HO}, v = .ref a → H a = some o → hid p H a = some o := fun e h => by
    rw [hid_ne (fun z => n (by rw [e, z]))]
    exact h
  cases h with
  | byt b => exact .byt b
  | kList h c => exact .kList h c
  | kTuple h c => exact .kTuple h c
  | kDict h c => exact .kDict h c
  | set h => exact .set (k rfl h)
  | fTuple h => exact .fTuple (k rfl h)
  | fDict h => exact .fDict (k rfl h)
  | base b =>
    refine .base ?_
    cases b with
    | non => exact .non
    | bl x => exact .bl x
    | int i => exact .int i
    | str x => exact .str x
    | flt x => exact .flt x
    | lst h => exact .lst (k rfl h)
    | frz h => exact .frz (k rfl h)
    | tup h => exact .tup (k rfl h)
    | dK h => exact .dK (k rfl h)
    | dT h => exact .dT (k rfl h)
    | ins h cl ha hn htk hm => exact .ins (k rfl h) cl ha hn htk hm
theorem TupAt.hid {K : PySem.W.Frag} {p a : Addr} {H : Hp} {xs : List V} (h : TupAt K H a xs) (n : a ≠ p) : TupAt K (hid p H) a xs := by
  refine ⟨?_, ty_hid (fun z => n (V.ref.inj z)) h.2⟩
  rcases h.1 with (h | ⟨o, h⟩) | h
  · exact .inl (.inl (by rw [hid_ne n]; exact h))
  · exact .inl (.inr ⟨o, by rw [hid_ne n]; exact h⟩)
  · exact .inr h
theorem TupAt.go {K : PySem.W.Frag} {D : DS} {a : Addr} {H H' : Hp} {xs : List V} (h : TupAt K H a xs) (n : a ≠ D.p) (g : Go D H H') : TupAt K H' a xs := ((h.hid n).to g.sm).to hid_same
theorem ne_or {D : DS} {H : Hp} {r a : Addr} (d : Drw D H) (o : r = a ∨ H r = none) (n : a ≠ D.p) : r ≠ D.p := o.elim (fun e => by rw [e]; exact n) d.ne_new
theorem ne_or3 {D : DS} {H : Hp} {r a b : Addr} (d : Drw D H) (o : r = a ∨ r = b ∨ H r = none) (n : a ≠ D.p) (m : b ≠ D.p) : r ≠ D.p := o.elim (fun e => by rw [e]; exact n) fun o => ne_or d o m
/-- names as values -/
def NmV (n : Nat) (vs : List V) : Prop := ∃ zs : List Str, vs = zs.map V.str ∧ (∀ z ∈ zs, isNm z = true) ∧ zs.length ≤ n
theorem NmV.cut {n : Nat} {vs : List V} (h : NmV n vs) (lo hi : Option Int) : NmV n (cutV vs lo hi) := by
  obtain ⟨zs, rfl, a, b⟩ := h
  obtain ⟨ws, e, c, d⟩ := cut_strs zs lo hi
  exact ⟨ws, e, fun z hz => a z (c z hz), Nat.le_trans d b⟩
theorem NmV.app {n m : Nat} {vs us : List V} (h : NmV n vs) (k : NmV m us) : NmV (n + m) (vs ++ us) := by
  obtain ⟨zs, rfl, a, b⟩ := h
  obtain ⟨ws, rfl, c, d⟩ := k
  refine ⟨zs ++ ws, by rw [List.map_append], fun z hz => ?_, by rw [List.length_append]; omega⟩
  rcases List.mem_append.mp hz with m | m
  · exact a z m
  · exact c z m
theorem NmV.rev {n : Nat} {vs : List V} (h : NmV n vs) : NmV n vs.reverse := by
  obtain ⟨zs, rfl, a, b⟩ := h
  exact ⟨zs.reverse, by rw [List.map_reverse], fun z hz => a z (List.mem_reverse.mp hz), by rw [List.length_reverse]; exact b⟩
theorem NmV.one {x : Str} (h : isNm x = true) : NmV 1 [.str x] := ⟨[x], rfl, fun z hz => by rw [List.mem_singleton.mp hz]; exact h, Nat.le_refl 1⟩
theorem NmV.len {n : Nat} {vs : List V} (h : NmV n vs) : vs.length ≤ n := by
  obtain ⟨zs, rfl, _, b⟩ := h
  rw [List.length_map]
  exact b
/-- an item at a place of any sign -/
theorem NmV.at {n : Nat} {vs : List V} (h : NmV n vs) {i : Int} (h0 : -(vs.length : Int) ≤ i) (h1 : i < vs.length) : ∃ y, isNm y = true ∧ atI vs i = some (.str y) := by
  obtain ⟨zs, rfl, a, _⟩ := h
  rw [List.length_map] at h0 h1
  obtain ⟨j, hj, e⟩ : ∃ j, j < zs.length ∧ ixN (zs.map V.str).length i = some j := by
    rw [List.length_map]
    unfold ixN
    by_cases z : 0 ≤ i
    · exact ⟨i.toNat, by omega, by rw [if_pos z, if_pos h1]⟩
    · exact ⟨(i + zs.length).toNat, by omega, by rw [if_neg z, if_pos h0]⟩
  refine ⟨zs[j], a _ (List.getElem_mem hj), ?_⟩
  unfold atI
  rw [e]
  show (zs.map V.str)[j]? = _
  rw [List.getElem?_map, List.getElem?_eq_getElem hj]
  rfl
end Th
/-! a walk over a list or a tuple; the first place -/
namespace Th
open PySem PySem.Spec PyProof.Rows L2
def iLT (K : PySem.W.Frag) (tl : TE) : TI := fun σ H R => tl σ H fun x H1 => ∃ a xs, x = .ref a ∧ ((SqL K H1 a xs ∧ R (Itl K a) H1) ∨ (SqT K H1 a xs ∧ R (Itt K a) H1))
theorem pi_LT {X : Cx} {tg l : Expr} {tl : TE} (hl : PE X l tl) : PI X tg l (iLT X.K tl) := by
  constructor
  intro pins s σ H R I h
  refine thn (hl.run pins s σ H _ I h) ?_
  rintro v s1 ⟨x, H1, J, r1, a, xs, rfl, q⟩
  obtain rfl : v = Value.ref a := r1
  have fp : ∀ b ∈ [s1.heap.objs.size], s1.heap.objs.size ≤ b := fun b hb => by rw [List.mem_singleton.mp hb]; exact Nat.le_refl _
  rcases q with ⟨hq, q⟩ | ⟨hq, q⟩
  · obtain ⟨its, rv, p, hz⟩ := J.list hq
    refine wpAny_pyIter_list p.isList ?_
    exact ⟨s1.heap.objs.size, [s1.heap.objs.size], _, _, H1, rfl, J.kept (t' := s1.toks) fun b o e => Heap.get?_push_of_some _ e, turn_list a _, ⟨_, Heap.get?_push_size _ rfl, rfl, rfl⟩, fun b hb => J.fpOk (fp b hb) (J.hok.fresh (fp b hb)), q⟩
  · obtain ⟨its, rv, p, hz⟩ := J.tuple hq
    refine wpAny_pyIter_tuple (show s1.heap.IsTuple a its.toArray from p) ?_
    exact ⟨s1.heap.objs.size, [s1.heap.objs.size], _, _, H1, rfl, J.kept (t' := s1.toks) fun b o e => Heap.get?_push_of_some _ e, turn_tuple a _, ⟨_, Heap.get?_push_size _ rfl, rfl, rfl⟩, fun b hb => J.fpOk (fp b hb) (J.hok.fresh (fp b hb)), q⟩
/-- the first place where p holds -/
def firstIx (p : Nat → Bool) (n : Nat) : Option Nat := (List.range n).find? p
theorem firstIx_some {p : Nat → Bool} {n k : Nat} (hk : k < n) (h : p k = true) (a : ∀ j, j < k → p j = false) : firstIx p n = some k := by
  unfold firstIx
  rw [List.find?_range_eq_some]
  exact ⟨h, List.mem_range.mpr hk, fun j hj => by rw [a j hj]; rfl⟩
theorem firstIx_none {p : Nat → Bool} {n : Nat} (a : ∀ j, j < n → p j = false) : firstIx p n = none := by
  unfold firstIx
  rw [List.find?_eq_none]
  intro j hj
  rw [a j (List.mem_range.mp hj)]
  exact Bool.false_ne_true
/-- a text of a list that stands ahead, too: the first such -/
def dupAt (xs : List Str) : Option Str := (firstIx (fun k => decide (xs.getD k Str.empty ∈ xs.take k)) xs.length).map fun k => xs.getD k Str.empty
theorem getD_of {xs : List Str} {k : Nat} {x : Str} (h : xs[k]? = some x) : xs.getD k Str.empty = x := by
  rw [List.getD_eq_getElem?_getD, h]
  rfl
theorem dupAt_some {xs : List Str} {k : Nat} {x : Str} (h : xs[k]? = some x) (m : x ∈ xs.take k) (a : ∀ j y, j < k → xs[j]? = some y → y ∉ xs.take j) : dupAt xs = some x := by
  unfold dupAt
  rw [firstIx_some (lt_of_get h) (decide_eq_true (by rw [getD_of h]; exact m)) fun j hj => ?_]
  · exact congrArg some (getD_of h)
  · obtain ⟨y, hy⟩ : ∃ y, xs[j]? = some y := ⟨_, List.getElem?_eq_getElem (Nat.lt_trans hj (lt_of_get h))⟩
    rw [getD_of hy]
    exact decide_eq_false (a j y hj hy)
theorem dupAt_none {xs : List Str} (a : ∀ j y, xs[j]? = some y → y ∉ xs.take j) : dupAt xs = none := by
  unfold dupAt
  rw [firstIx_none fun j hj => ?_]
  · rfl
  · obtain ⟨y, hy⟩ : ∃ y, xs[j]? = some y := ⟨_, List.getElem?_eq_getElem hj⟩
    rw [getD_of hy]
    exact decide_eq_false (a j y hy)
end Th
/-! own classes: what a def may use of them -/
namespace Th
open PySem PySem.Spec PyProof.Rows L2
/-- a class of the program: its name, its fields -/
structure ClsF (K : PySem.W.Frag) (mg : Str → Option Value) (C : Addr) (x : Str) (flds : List Str) : Prop where
  m : mg x = some (.ref C)
  cl : Cls K C
  na : ∀ f ∈ flds, NoAttr K C f
/-- its __init__, with what stands for the parameters that are not given -/
def HasI (P : Program) (w : World) (K : PySem.W.Frag) (mg : Str → Option Value) (base : Heap) (C : Addr) (k : Nat) (ps : List Str) (D : List V → Prop) (sp : Sp) : Prop :=
  ∃ (fI : Addr) (fd : FuncData) (ds : List Value) (dvs : List V), Mk K C fI ∧ FnOk P w K mg base (L2.CX P w) k fI fd ps sp ∧ Binds K fd ps ds ∧ Vals dvs ds ∧ D dvs
/-- a method -/
def HasM (P : Program) (w : World) (K : PySem.W.Frag) (mg : Str → Option Value) (base : Heap) (C : Addr) (m : Str) (k : Nat) (ps : List Str) (sp : Sp) : Prop :=
  ∃ (f : Addr) (fd : FuncData), Meth K C m f ∧ FnOk P w K mg base (L2.CX P w) k f fd ps sp ∧ Binds K fd ps []
/-- one default: an empty tuple -/
def dEmpty (K : PySem.W.Frag) (dvs : List V) : Prop := ∃ t : Addr, dvs = [.ref t] ∧ ∀ H : Hp, SqT K H t [] ∧ TyX K H (.ref t) (.type "tuple")
/-- no default is left to fill in -/
def dNone (_ : PySem.W.Frag) (dvs : List V) : Prop := dvs = []
/-- a def that is never called -/
def spNo : Sp := fun _ _ _ _ => False
theorem no_ok {P : Program} {w : World} {K : PySem.W.Frag} {mg : Str → Option Value} {base : Heap} {CX : CXT} {k : Nat} {f : Addr} {fd : FuncData} {ps : List Str} : FnOk P w K mg base CX k f fd ps spNo :=
  ⟨fun _ _ _ _ h => h.elim, fun _ _ _ _ _ _ _ _ _ _ _ _ _ hs => hs.elim⟩
end Th
/-! what is wrong with an argument: the error's name and its value -/
namespace Th
open PySem PySem.Spec PyProof.Rows L2
/-- the items of a list or a tuple -/
def itemsF : PyData → Option (List PyData)
  | .list ds => some ds
  | .tuple ds => some ds
  | _ => none
theorem seqF {K : PySem.W.Frag} {H : Hp} {v : V} {d : PyData} (r : Da K H v d) (h : tyD d = "list" ∨ tyD d = "tuple") : ∃ b vs ds, v = .ref b ∧ (SqL K H b vs ∨ SqT K H b vs) ∧ DaAll K H vs ds ∧ itemsF d = some ds := by
  cases r with
  | non => rcases h with z | z <;> exact absurd z (by simp [tyD])
  | bl b => rcases h with z | z <;> exact absurd z (by simp [tyD])
  | int b => rcases h with z | z <;> exact absurd z (by simp [tyD])
  | str b => rcases h with z | z <;> exact absurd z (by simp [tyD])
  | lst a b c => exact ⟨_, _, _, rfl, .inl a, c, rfl⟩
  | tup a b c => exact ⟨_, _, _, rfl, .inr a, c, rfl⟩
theorem noseqF {d : PyData} (h : ¬ (tyD d = "list" ∨ tyD d = "tuple")) : itemsF d = none := by
  cases d with
  | list _ => exact absurd (.inl rfl) h
  | tuple _ => exact absurd (.inr rfl) h
  | none => rfl
  | bool _ => rfl
  | int _ => rfl
  | str _ => rfl
  | dict _ => rfl
def markOf : PyData → Str
  | .tuple (m :: _) => strD m
  | _ => Str.empty
abbrev dueE (c : Str) (v : PyData) : Option (Str × PyData) := some (c, v)
def fldOf (c : Str) : Str := if c = "InvalidFact" then "at" else if c = "TooMany" then "most" else if c = "InvalidFind" then "at" else if c = "InvalidWord" then "at" else "name"
theorem getDd {ds : List PyData} {k : Nat} {e : PyData} (h : ds[k]? = some e) : ds.getD k .none = e := by
  rw [List.getD_eq_getElem?_getD, h]
  rfl
/-- a cut of a list or a tuple -/
def rSlLT (K : PySem.W.Frag) : V → Option Int → Option Int → Hp → VK → Prop := fun x lo hi H Q => ∃ a xs, x = .ref a ∧ (SqL K H a xs ∨ SqT K H a xs) ∧ ∀ r H', Same H H' → (SqL K H' r (cutV xs lo hi) ∨ SqT K H' r (cutV xs lo hi)) → Q (.ref r) H'
theorem sl_LT {X : Cx} : SlR X (rSlLT X.K) := by
  intro pins s σ H x v vl vu lo hi sl Q I rx hs pl pu h
  obtain ⟨a, xs, rfl, ha, q⟩ := h
  rcases ha with ha | ha
  · exact sl_list pins s σ H _ v vl vu lo hi sl Q I rx hs pl pu ⟨a, xs, rfl, ha, fun p np => q p _ (same_new np) (.inl (.inl (.inl upd_same)))⟩
  · exact sl_tupA pins s σ H _ v vl vu lo hi sl Q I rx hs pl pu ⟨a, xs, rfl, ha, fun w => q a H (Same.refl H) (.inr (by rw [cutV_whole w]; exact ha)), fun _ p np => q p _ (same_new np) (.inr (.inl (.inl upd_same)))⟩
/-- sorted(texts), of a list or a tuple -/
def rSortedLT (K : PySem.W.Frag) : List V → Hp → VK → Prop := fun vs H Q => ∃ (a : Addr) (l : List Str), vs = [V.ref a] ∧ (SqL K H a (l.map V.str) ∨ SqT K H a (l.map V.str)) ∧ l.length < 64 ∧
  ∀ (ys : List Str) (p : Addr), ys.Perm l → sortedS ys = true → H p = none → Q (.ref p) (upd H p (.lst (ys.map V.str)))
theorem cr_sortedLT {X : Cx} : CallR X (.builtin "sorted") (rSortedLT X.K) := by
  intro pins s σ H vs us Q I r h
  obtain ⟨a, l, rfl, ha, h64, q⟩ := h
  rcases ha with ha | ha
  · exact cr_sortedS pins s σ H _ us Q I r ⟨a, l, rfl, ha, h64, q⟩
  · exact cr_sortedTT pins s σ H _ us Q I r ⟨a, l, rfl, ha, h64, q⟩
/-- a comprehension over a list or a tuple -/
theorem same_any {K : PySem.W.Frag} {H H' : Hp} {p : Addr} {xs : List V} (s : Same H H') (h : SqL K H p xs ∨ SqT K H p xs) : SqL K H' p xs ∨ SqT K H' p xs := h.imp s.seq (same_t s)
end Th
/-! books: what stays while one is made, what one holds -/
namespace Th
open PySem PySem.Spec PyProof.Rows L2
/-- all but instances stay -/
def KeepS (H H' : Hp) : Prop := ∀ b o, H b = some o → (∀ C dx fs, o ≠ .ins C dx fs) → H' b = some o
theorem KeepS.of {H H' : Hp} (s : Same H H') : KeepS H H' := fun b o e _ => s b o e
theorem KeepS.trans {H H1 H2 : Hp} (a : KeepS H H1) (b : KeepS H1 H2) : KeepS H H2 := fun c o e p => b c o (a c o e p) p
/-- one instance gets other fields -/
theorem KeepS.put {H : Hp} {b C dx : Addr} {fs : List (Str × V)} {o : HO} (e : H b = some (.ins C dx fs)) : KeepS H (upd H b o) := fun c o' h n => by
  by_cases z : c = b
  · rw [z, e] at h
    cases h
    exact absurd rfl (n C dx fs)
  · rw [upd_ne z]
    exact h
section
variable {K : PySem.W.Frag} {H H' : Hp}
theorem KeepS.l (e : KeepS H H') {a : Addr} {xs : List V} (h : SqL K H a xs) : SqL K H' a xs := by
  rcases h with (h | ⟨o, h⟩) | h
  · exact .inl (.inl (e _ _ h (fun _ _ _ z => by cases z)))
  · exact .inl (.inr ⟨o, e _ _ h (fun _ _ _ z => by cases z)⟩)
  · exact .inr h
theorem KeepS.t (e : KeepS H H') {a : Addr} {xs : List V} (h : SqT K H a xs) : SqT K H' a xs := by
  rcases h with (h | ⟨o, h⟩) | h
  · exact .inl (.inl (e _ _ h (fun _ _ _ z => by cases z)))
  · exact .inl (.inr ⟨o, e _ _ h (fun _ _ _ z => by cases z)⟩)
  · exact .inr h
theorem KeepS.lt (e : KeepS H H') {a : Addr} {xs : List V} (h : SqL K H a xs ∨ SqT K H a xs) : SqL K H' a xs ∨ SqT K H' a xs := h.imp e.l e.t
theorem KeepS.ty (e : KeepS H H') {v : V} {t : String} (h : TyX K H v (.type t)) : TyX K H' v (.type t) := by
  generalize ht : Value.type t = u at h
  cases h with
  | byt b => exact .byt b
  | kList h c => exact .kList h c
  | kTuple h c => exact .kTuple h c
  | kDict h c => exact .kDict h c
  | set h => exact .set (e _ _ h (fun _ _ _ z => by cases z))
  | fTuple h => exact .fTuple (e _ _ h (fun _ _ _ z => by cases z))
  | fDict h => exact .fDict (e _ _ h (fun _ _ _ z => by cases z))
  | base b =>
    refine .base ?_
    cases b with
    | non => exact .non
    | bl x => exact .bl x
    | int i => exact .int i
    | str x => exact .str x
    | flt x => exact .flt x
    | lst h => exact .lst (e _ _ h (fun _ _ _ z => by cases z))
    | frz h => exact .frz (e _ _ h (fun _ _ _ z => by cases z))
    | tup h => exact .tup (e _ _ h (fun _ _ _ z => by cases z))
    | dK h => exact .dK (e _ _ h (fun _ _ _ z => by cases z))
    | dT h => exact .dT (e _ _ h (fun _ _ _ z => by cases z))
    | ins h cl ha hn htk hm => cases ht
mutual
theorem Da.keepS (e : KeepS H H') : ∀ (d : PyData) (v : V), Da K H v d → Da K H' v d
  | .none, _, h => by cases h; exact .non
  | .bool b, _, h => by cases h; exact .bl b
  | .int i, _, h => by cases h; exact .int i
  | .str x, _, h => by cases h; exact .str x
  | .list ds, _, h => by
    cases h with
    | lst hs ht ha => exact .lst (e.l hs) (e.ty ht) (DaAll.keepS e ds _ ha)
  | .tuple ds, _, h => by
    cases h with
    | tup hs ht ha => exact .tup (e.t hs) (e.ty ht) (DaAll.keepS e ds _ ha)
  | .dict _, _, h => by cases h
theorem DaAll.keepS (e : KeepS H H') : ∀ (ds : List PyData) (vs : List V), DaAll K H vs ds → DaAll K H' vs ds
  | [], _, h => by cases h; exact .nil
  | d :: ds, _, h => by
    cases h with
    | cons h1 h2 => exact .cons (Da.keepS e d _ h1) (DaAll.keepS e ds _ h2)
end
theorem DaAll.ks {vs : List V} {ds : List PyData} (h : DaAll K H vs ds) (e : KeepS H H') : DaAll K H' vs ds := DaAll.keepS e ds vs h
theorem Da.ks {v : V} {d : PyData} (h : Da K H v d) (e : KeepS H H') : Da K H' v d := Da.keepS e d v h
end
/-- a book: its finds, ascending, and its words -/
structure BookW (K : PySem.W.Frag) (H : Hp) (C b : Addr) (ys : List Str) (ws : List PyData) : Prop where
  ex : ∃ (dx fa wa : Addr) (vs : List V), H b = some (.ins C dx [("_finds", .ref fa), ("_words", .ref wa)]) ∧ H fa = some (.lst (ys.map V.str)) ∧ H wa = some (.lst vs) ∧ DaAll K H vs ws
theorem BookW.to {K : PySem.W.Frag} {H H' : Hp} {C b : Addr} {ys : List Str} {ws : List PyData} (h : BookW K H C b ys ws) (s : Same H H') : BookW K H' C b ys ws := by
  obtain ⟨dx, fa, wa, vs, e1, e2, e3, e4⟩ := h.ex
  exact ⟨dx, fa, wa, vs, s _ _ e1, s _ _ e2, s _ _ e3, e4.to s⟩
theorem put_two (f w : V) : putF "_words" w (putF "_finds" f []) = ([("_finds", f), ("_words", w)] : List (Str × V)) := by rfl
theorem bk_f (f w : V) : ([("_finds", f), ("_words", w)] : List (Str × V)).lookup ("_finds" : Str) = some f := by rfl
theorem bk_w (f w : V) : ([("_finds", f), ("_words", w)] : List (Str × V)).lookup ("_words" : Str) = some w := by rfl
theorem filterStep {α : Type} {p : α → Bool} {xs : List α} {i : Nat} {x : α} (h : xs[i]? = some x) : (xs.take (i + 1)).filter p = (xs.take i).filter p ++ (if p x = true then [x] else []) := by
  rw [List.take_add_one, h, List.filter_append]
  by_cases hm : p x = true
  · rw [if_pos hm, Option.toList_some, List.filter_cons, if_pos hm]
    rfl
  · rw [if_neg hm, Option.toList_some, List.filter_cons, if_neg hm]
    rfl
/-- a word: its mark, its lot -/
def wOf (p : Str × List Str) : PyData := .tuple [.str p.1, .tuple (p.2.map .str)]
theorem Da.wO {K : PySem.W.Frag} {H : Hp} {v : V} {p : Str × List Str} (h : Da K H v (wOf p)) : ∃ a b, v = .ref a ∧ SqT K H a [.str p.1, .ref b] ∧ Da K H (.ref b) (.tuple (p.2.map .str)) := by
  cases h with
  | tup s1 _ r1 =>
    cases r1 with
    | cons h1 r1 =>
      cases h1
      cases r1 with
      | cons h2 r2 =>
        cases r2
        cases h2 with
        | tup s2 t2 r3 => exact ⟨_, _, rfl, s1, .tup s2 t2 r3⟩
end Th
/-! statements -/
namespace Th
open PySem PySem.Spec PyProof.Rows L2
inductive St where
  | lot (xs : List Str)
  | bef (x y : Str)
  | nev
def stOf : St → PyData
  | .lot xs => .tuple [.str "lot", .tuple (xs.map .str)]
  | .bef x y => .tuple [.str "before", .str x, .str y]
  | .nev => .tuple [.str "never"]
def okSt : St → Prop
  | .lot xs => xs ≠ [] ∧ (∀ x ∈ xs, isNm x = true) ∧ risB xs = true ∧ xs.length ≤ 60
  | .bef x y => isNm x = true ∧ isNm y = true
  | .nev => True
def hdS : St → Str
  | .lot _ => "lot"
  | .bef _ _ => "before"
  | .nev => "never"
def isLot : St → Bool
  | .lot _ => true
  | _ => false
def isBef : St → Bool
  | .bef _ _ => true
  | _ => false
theorem lot_strs {d : PyData} {n : Nat} (h : lotD d = true) (lv : Lv (n + 1) d) : ∃ xs : List Str, d = .tuple (xs.map .str) ∧ xs ≠ [] ∧ (∀ x ∈ xs, isNm x = true) ∧ risB xs = true ∧ xs.length ≤ 60 := by
  cases d with
  | tuple ds =>
    obtain ⟨h1, h2⟩ := Bool.and_eq_true_iff.mp (show (!ds.isEmpty && ds.all nmD && risB (ds.map strD)) = true from h)
    obtain ⟨h0, h3⟩ := Bool.and_eq_true_iff.mp h1
    have e := nms_strs h3
    refine ⟨ds.map strD, by rw [← e], fun z => ?_, fun x hx => ?_, h2, by rw [List.length_map]; exact lv.1⟩
    · rw [List.map_eq_nil_iff.mp z] at h0
      cases h0
    · obtain ⟨y, hy, rfl⟩ := List.mem_map.mp hx
      have := List.all_eq_true.mp h3 y hy
      rw [nmD_str this] at this
      exact this
  | _ => cases h
theorem st_shape {n : Nat} {d : PyData} (h : stD d = true) (lv : Lv (n + 2) d) : ∃ s, d = stOf s ∧ okSt s := by
  cases d with
  | tuple ds =>
    cases ds with
    | nil => cases h
    | cons e r =>
      cases e with
      | str hd =>
        have h' : (if hd = "lot" then (r.length == 1 && r.all lotD) else if hd = "before" then (r.length == 2 && r.all nmD) else (decide (hd = "never") && r.isEmpty)) = true := h
        by_cases h1 : hd = "lot"
        · rw [if_pos h1] at h'
          obtain ⟨a, b⟩ := Bool.and_eq_true_iff.mp h'
          cases r with
          | nil => cases a
          | cons l r =>
            cases r with
            | cons _ _ => cases a
            | nil =>
              obtain ⟨xs, e, k⟩ := lot_strs (n := n) (by simpa using b) (lv_in lv (List.mem_cons_of_mem _ List.mem_cons_self))
              exact ⟨.lot xs, by rw [h1, e]; rfl, k⟩
        · rw [if_neg h1] at h'
          by_cases h2 : hd = "before"
          · rw [if_pos h2] at h'
            obtain ⟨a, b⟩ := Bool.and_eq_true_iff.mp h'
            cases r with
            | nil => cases a
            | cons x r =>
              cases r with
              | nil => cases a
              | cons y r =>
                cases r with
                | cons _ _ => cases a
                | nil =>
                  have b' : (nmD x && (nmD y && true)) = true := b
                  obtain ⟨b1, b2⟩ := Bool.and_eq_true_iff.mp b'
                  rw [Bool.and_true] at b2
                  have e1 := nmD_str b1
                  have e2 := nmD_str b2
                  refine ⟨.bef (strD x) (strD y), by rw [h2, e1, e2]; rfl, ?_, ?_⟩
                  · rw [e1] at b1; exact b1
                  · rw [e2] at b2; exact b2
          · rw [if_neg h2] at h'
            obtain ⟨a, b⟩ := Bool.and_eq_true_iff.mp h'
            cases r with
            | cons _ _ => cases b
            | nil => exact ⟨.nev, by rw [of_decide_eq_true a]; rfl, True.intro⟩
      | _ => cases h
  | _ => cases h
section
variable {K : PySem.W.Frag} {H : Hp} {v : V}
theorem Da.stL {xs : List Str} (h : Da K H v (stOf (.lot xs))) : ∃ a b, v = .ref a ∧ SqT K H a [.str "lot", .ref b] ∧ SqT K H b (xs.map V.str) := by
  cases h with
  | tup s1 _ r1 =>
    cases r1 with
    | cons h1 r1 =>
      cases h1
      cases r1 with
      | cons h2 r2 =>
        cases r2
        cases h2 with
        | tup s2 _ r3 =>
          rw [r3.isStrs] at s2
          exact ⟨_, _, rfl, s1, s2⟩
theorem Da.stB {x y : Str} (h : Da K H v (stOf (.bef x y))) : ∃ a, v = .ref a ∧ SqT K H a [.str "before", .str x, .str y] := by
  cases h with
  | tup s1 _ r1 =>
    cases r1 with
    | cons h1 r1 =>
      cases h1
      cases r1 with
      | cons h2 r2 =>
        cases h2
        cases r2 with
        | cons h3 r3 =>
          cases h3
          cases r3
          exact ⟨_, rfl, s1⟩
theorem Da.stN (h : Da K H v (stOf .nev)) : ∃ a, v = .ref a ∧ SqT K H a [.str "never"] := by
  cases h with
  | tup s1 _ r1 =>
    cases r1 with
    | cons h1 r1 =>
      cases h1
      cases r1
      exact ⟨_, rfl, s1⟩
theorem Da.stBT {x y : Str} (h : Da K H v (stOf (.bef x y))) : ∃ a, v = .ref a ∧ TupAt K H a [.str "before", .str x, .str y] := by
  obtain ⟨a, rfl, s1⟩ := h.stB
  cases h with
  | tup _ t1 _ => exact ⟨a, rfl, s1, t1⟩
/-- its head -/
theorem Da.stH {s : St} (h : Da K H v (stOf s)) : ∃ a us, v = .ref a ∧ SqT K H a us ∧ us[0]? = some (.str (hdS s)) := by
  cases s with
  | lot xs => obtain ⟨a, b, e, s1, _⟩ := h.stL; exact ⟨a, _, e, s1, rfl⟩
  | bef x y => obtain ⟨a, e, s1⟩ := h.stB; exact ⟨a, _, e, s1, rfl⟩
  | nev => obtain ⟨a, e, s1⟩ := h.stN; exact ⟨a, _, e, s1, rfl⟩
end
theorem hd_lot (s : St) : decide (V.str (hdS s) = V.str "lot") = isLot s := by
  cases s with
  | lot _ => exact (show decide (V.str "lot" = V.str "lot") = true by decide +kernel)
  | bef _ _ => exact (show decide (V.str "before" = V.str "lot") = false by decide +kernel)
  | nev => decide +kernel
theorem hd_bef (s : St) : decide (V.str (hdS s) = V.str "before") = isBef s := by
  cases s with
  | lot _ => exact (show decide (V.str "lot" = V.str "before") = false by decide +kernel)
  | bef _ _ => exact (show decide (V.str "before" = V.str "before") = true by decide +kernel)
  | nev => decide +kernel
/-- two lots overlap -/
def ovB (xs zs : List Str) : Bool := !(xs.all fun x => !decide (x ∈ zs)) && !(xs.all fun x => decide (x ∈ zs)) && !(zs.all fun z => decide (z ∈ xs))
def ovS : St → St → Bool
  | .lot xs, .lot zs => ovB xs zs
  | _, _ => false
theorem ovB_iff {xs zs : List Str} {c : Bool} (h : c = true ↔ (¬ ∀ x ∈ xs, x ∉ zs) ∧ (¬ ∀ x ∈ xs, x ∈ zs) ∧ ¬ ∀ z ∈ zs, z ∈ xs) : c = ovB xs zs := by
  rw [Bool.eq_iff_iff, h]
  unfold ovB
  simp
  constructor
  · rintro ⟨a, b, c⟩; exact ⟨⟨a, b⟩, c⟩
  · rintro ⟨⟨a, b⟩, c⟩; exact ⟨a, b, c⟩
theorem ov_lots {s0 s1 : St} (h : ovS s0 s1 = true) : ∃ xs zs, s0 = .lot xs ∧ s1 = .lot zs ∧ ovB xs zs = true := by
  cases s0 with
  | lot xs =>
    cases s1 with
    | lot zs => exact ⟨xs, zs, rfl, rfl, h⟩
    | _ => cases h
  | _ => cases h
theorem two_bef {s t : St} (h : [s, t].all isBef = true) : ∃ u v x y, s = .bef u v ∧ t = .bef x y := by
  cases s with
  | bef u v =>
    cases t with
    | bef x y => exact ⟨u, v, x, y, rfl, rfl⟩
    | _ => cases h
  | _ => cases h
/-- a rule that draws a statement from those told ahead -/
def spDrawn (K : PySem.W.Frag) (n : Nat) (j : St → List St → Bool) : Sp := fun vs H Q _ => ∃ (v : V) (a : Addr) (us : List V) (st : St) (ts : List St), vs = [v, .ref a] ∧ Da K H v (stOf st) ∧ okSt st ∧ SqL K H a us ∧ DaAll K H us (ts.map stOf) ∧ (∀ t ∈ ts, okSt t) ∧ ts.length = n ∧ ∀ H', Same H H' → Q (.bl (j st ts)) H'
theorem len2 {α : Type} {l : List α} (h : l.length = 2) : ∃ a b, l = [a, b] := by
  match l, h with
  | [a, b], _ => exact ⟨a, b, rfl⟩
theorem len3 {α : Type} {l : List α} (h : l.length = 3) : ∃ a b c, l = [a, b, c] := by
  match l, h with
  | [a, b, c], _ => exact ⟨a, b, c, rfl⟩
theorem inI (i : Int) (l : List Int) : inV (.int i) (l.map V.int) = l.any fun p => decide (p = i) := by
  unfold inV
  rw [List.any_map]
  congr 1
theorem flatI (l : List Int) : (l.map V.int).all flatV = true := by
  rw [List.all_map, List.all_eq_true]
  intro _ _
  rfl
end Th
/-! a + x by an own __add__, x any datum -/
namespace PySem.W
open Lean Elab Tactic Meta PySem PySem.Calls PyProof.Rows
section
variable {prog : Program} {w : World} {A : Around} {E : Value → Shared → Prop} {s : Shared} {K : Frag} {x C f : Addr} {ox : Obj} {od : Option Obj} {T : String}
theorem th_binT {op : Operator} {b : Value} {fo ro rc : Option Value} {Q : Value → Shared → Prop} (X : K.In s.heap) (I : InstAt s.heap x ox C od) (hb : Looks (model prog w) s.heap (typeOf b) (.type T)) (hc : selfFirst K C = true)
    (hs : findIn K (.ref C) (PySem.dunder op.info.2) = some (some (.ref f))) (hf : isFn K (.ref f) = true) (hr : findIn K (.ref C) (dunderR op.info.2) = some rc) (hp : rc = none ∨ ∃ g : Addr, rc = some (.ref g))
    (h1 : findIn K (.type T) (PySem.dunder op.info.2) = some fo) (h2 : findIn K (.type T) (dunderR op.info.2) = some ro) (hsub : subIn K (.type T) (.ref C) = some false)
    (h : wpAny (model prog w) A (call (.ref f) [.ref x, b]) (CmpBack Q) E s) : wpAny (model prog w) A (binaryOp op (.ref x) b) Q E s := by
  obtain ⟨cd, rest, hcd, hm⟩ := ksp_first hc
  rcases hi : op.info with ⟨sym, nm'⟩
  rw [hi] at hs hr h1 h2
  dsimp only at hs hr h1 h2
  have one := ksp_try X I hs hf h
  obtain ⟨hh, g, d, tt, os⟩ := s
  have L1 : Looks (model prog w) hh (typeOf (.ref x)) (.ref C) := I.type
  have L2 : Looks (model prog w) hh (typeOf b) (.type T) := hb
  have L3 : Looks (model prog w) hh (fillsNumberSlot (.ref C) nm') true := fills_K X hcd hm hs
  have L4 : Looks (model prog w) hh (fillsNumberSlot (.type T) nm') ((fo.isSome && !isSeqSlot fo) || (ro.isSome && !isSeqSlot ro)) := ksp_fillsT X h1 h2
  have L5 : Looks (model prog w) hh (isSubtype (.type T) (.ref C)) false := looks_subIn X hsub
  have L6 : Looks (model prog w) hh (numberSlotInPython (.ref C) nm') true := ksp_inPy X hs hr hp
  have L7 : Looks (model prog w) hh (numberSlotInPython (.type T) nm') false := Looks.of_pure rfl
  have L8 : Looks (model prog w) hh (typeLookup (.type T) (dunderR nm')) ro := looks_findIn X h2
  generalize ((fo.isSome && !isSeqSlot fo) || (ro.isSome && !isSeqSlot ro)) = right at L4
  have hne : (Value.ref C == Value.type T) = false := Bool.eq_false_iff.mpr fun q => by cases beq_iff_eq.mp q
  simp only [binaryOp, hi]
  refine wpAny_holding (wpAny_bind ?_)
  unfold binaryOp1
  refine wpAny_bind (L1.at (wpAny_bind (L2.at (wpAny_bind (L3.at ?_)))))
  simp only [hne, Bool.false_eq_true, if_false]
  cases right with
  | false =>
    ksp_lk
    refine wpAny_mono one (fun r s' hr' => ?_) fun _ _ e => e
    obtain ⟨v, rfl, hq⟩ := hr'
    ksp_lk
    exact hq
  | true =>
    ksp_lk
    refine wpAny_mono one (fun r s' hr' => ?_) fun _ _ e => e
    obtain ⟨v, rfl, hq⟩ := hr'
    ksp_lk
    exact hq
end
end PySem.W
namespace Th
open PySem PySem.Spec PyProof.Rows L2
def dataTypes : List String := ["NoneType", "bool", "int", "str", "list", "tuple"]
/-- a class with an own __add__ -/
structure AddC (K : PySem.W.Frag) (C f : Addr) : Prop where
  sf : PySem.W.selfFirst K C = true
  at_ : PySem.W.findIn K (.ref C) (PySem.dunder "add") = some (some (.ref f))
  fn : PySem.W.isFn K (.ref f) = true
  r : PySem.W.findIn K (.ref C) (PySem.dunderR "add") = some none
  ty : ∀ T ∈ dataTypes, (∃ fo, PySem.W.findIn K (.type T) (PySem.dunder "add") = some fo) ∧ (∃ ro, PySem.W.findIn K (.type T) (PySem.dunderR "add") = some ro) ∧ PySem.W.subIn K (.type T) (.ref C) = some false
/-- its promise -/
def HasA (P : Program) (w : World) (K : PySem.W.Frag) (mg : Str → Option Value) (base : Heap) (C : Addr) (k : Nat) (ps : List Str) (sp : Sp) : Prop :=
  ∃ (f : Addr) (fd : FuncData), AddC K C f ∧ FnOk P w K mg base (L2.CX P w) k f fd ps sp ∧ Binds K fd ps []
def rAdd (K : PySem.W.Frag) (C : Addr) (sp : Sp) (E : XK) : R2 := fun x y H Q => ∃ (b dx : Addr) (fs : List (Str × V)) (T : String), x = .ref b ∧ H b = some (.ins C dx fs) ∧ TyX K H y (.type T) ∧ T ∈ dataTypes ∧ sp [x, y] H Q E
theorem op_addOwn {X : Cx} {C f : Addr} {fd : FuncData} {CX : CXT} {k : Nat} {ps : List Str} {sp : Sp} {E : XK} (ac : AddC X.K C f) (F : FnOk X.prog X.w X.K X.mg X.base CX k f fd ps sp) (hr : Room k X.A) (hb : Binds X.K fd ps []) (hx : Passes CX X E) :
    OpR X (binaryOp .Add) (rAdd X.K C sp E) := by
  intro pins s σ H x y v u Q I rx ry h
  obtain ⟨b, dx, fs, T, rfl, eb, ty, hT, q⟩ := h
  obtain rfl : v = Value.ref b := rx
  obtain ⟨mA, O, _, _, _, _⟩ := ins_get I.hok eb
  obtain ⟨od, J, _⟩ := O.look
  obtain ⟨P, kx, hP, _⟩ := kit_of I ry ty
  obtain ⟨⟨fo, h1⟩, ⟨ro, h2⟩, h3⟩ := ac.ty T hT
  refine PySem.W.th_binT I.kIn J (kx.ty _ _ I.kIn hP) ac.sf ac.at_ ac.fn ac.r (.inl rfl) h1 h2 h3 ?_
  refine wpAny_mono (run_fn (us := [.ref b, u]) (vs := [.ref b, y]) F hr hb .nil hx I (.cons rfl (.cons ry .nil)) q) (fun r s' hq => ?_) fun _ _ e => e
  obtain ⟨z, H', J', rz, qz⟩ := hq
  cases r <;> first | exact ⟨z, H', J', rz, qz⟩ | (exfalso; cases z <;> first | (obtain ⟨_, e⟩ := rz; cases e; done) | (cases rz; done))
end Th
namespace PySem.W
open Lean Elab Tactic Meta PySem PySem.Calls PyProof.Rows
section
variable {M : Model} {A : Around} {E : Value → Shared → Prop} {s : Shared} {K : Frag} {x C f : Addr} {ox : Obj} {od : Option Obj} {v : Value}
theorem th_contains {Q : Bool → Shared → Prop} (X : K.In s.heap) (I : InstAt s.heap x ox C od) (hs : findIn K (.ref C) "__contains__" = some (some (.ref f))) (hf : isFn K (.ref f) = true)
    (h : wpAny M A (call (.ref f) [.ref x, v]) (fun r s' => wpAny M A (truthy r) Q E s') E s) : wpAny M A (contains (.ref x) v) Q E s := by
  unfold contains
  refine wpAny_holding (wpAny_bind (wpAny_bind (I.type.here ((looks_findIn X hs).here ?_))))
  rw [if_neg (by simp)]
  exact wpAny_bind (unlessNone_K X I hs hf h)
theorem th_in {Q : Value → Shared → Prop} (X : K.In s.heap) (I : InstAt s.heap x ox C od) (hs : findIn K (.ref C) "__contains__" = some (some (.ref f))) (hf : isFn K (.ref f) = true)
    (h : wpAny M A (call (.ref f) [.ref x, v]) (fun r s' => wpAny M A (truthy r) (fun b => Q (.bool b)) E s') E s) : wpAny M A (compareOp .In v (.ref x)) Q E s :=
  wpAny_bind (th_contains X I hs hf (wpAny_mono h (fun _ _ z => wpAny_mono z (fun _ _ z => wpAny_pure z) fun _ _ z => z) fun _ _ z => z))
theorem th_notIn {Q : Value → Shared → Prop} (X : K.In s.heap) (I : InstAt s.heap x ox C od) (hs : findIn K (.ref C) "__contains__" = some (some (.ref f))) (hf : isFn K (.ref f) = true)
    (h : wpAny M A (call (.ref f) [.ref x, v]) (fun r s' => wpAny M A (truthy r) (fun b => Q (.bool (!b))) E s') E s) : wpAny M A (compareOp .NotIn v (.ref x)) Q E s :=
  wpAny_bind (th_contains X I hs hf (wpAny_mono h (fun _ _ z => wpAny_mono z (fun _ _ z => wpAny_pure z) fun _ _ z => z) fun _ _ z => z))
end
end PySem.W
namespace Th
open PySem PySem.Spec PyProof.Rows L2
/-- x in o by an own __contains__ that hands a bool back (neg: not in) -/
def rInOwn (C : Addr) (sp : Sp) (E : XK) (neg : Bool) : R2 := fun x y H Q => ∃ (b dx : Addr) (fs : List (Str × V)), y = .ref b ∧ H b = some (.ins C dx fs) ∧ sp [.ref b, x] H (fun v H' => ∃ c, v = .bl c ∧ Q (.bl (if neg then !c else c)) H') E
theorem op_inOwn {X : Cx} {C f : Addr} {fd : FuncData} {CX : CXT} {k : Nat} {ps : List Str} {sp : Sp} {E : XK} (me : Meth X.K C "__contains__" f) (F : FnOk X.prog X.w X.K X.mg X.base CX k f fd ps sp) (hr : Room k X.A) (hb : Binds X.K fd ps []) (hx : Passes CX X E) :
    OpR X (compareOp .In) (rInOwn C sp E false) := by
  intro pins s σ H x y v u Q I rx ry h
  obtain ⟨b, dx, fs, rfl, eb, q⟩ := h
  obtain rfl : u = Value.ref b := ry
  obtain ⟨mA, O, _, _, _, _⟩ := ins_get I.hok eb
  obtain ⟨od, J, _⟩ := O.look
  refine PySem.W.th_in I.kIn J me.at_ me.fn ?_
  refine wpAny_mono (run_fn (us := [.ref b, v]) (vs := [.ref b, x]) F hr hb .nil hx I (.cons rfl (.cons rx .nil)) q) (fun r s' hq => ?_) fun _ _ e => e
  obtain ⟨z, H', J', rz, c, rfl, qz⟩ := hq
  obtain rfl : r = Value.bool c := rz
  exact wpAny_pure ⟨.bl c, H', J', rfl, qz⟩
theorem op_notInOwn {X : Cx} {C f : Addr} {fd : FuncData} {CX : CXT} {k : Nat} {ps : List Str} {sp : Sp} {E : XK} (me : Meth X.K C "__contains__" f) (F : FnOk X.prog X.w X.K X.mg X.base CX k f fd ps sp) (hr : Room k X.A) (hb : Binds X.K fd ps []) (hx : Passes CX X E) :
    OpR X (compareOp .NotIn) (rInOwn C sp E true) := by
  intro pins s σ H x y v u Q I rx ry h
  obtain ⟨b, dx, fs, rfl, eb, q⟩ := h
  obtain rfl : u = Value.ref b := ry
  obtain ⟨mA, O, _, _, _, _⟩ := ins_get I.hok eb
  obtain ⟨od, J, _⟩ := O.look
  refine PySem.W.th_notIn I.kIn J me.at_ me.fn ?_
  refine wpAny_mono (run_fn (us := [.ref b, v]) (vs := [.ref b, x]) F hr hb .nil hx I (.cons rfl (.cons rx .nil)) q) (fun r s' hq => ?_) fun _ _ e => e
  obtain ⟨z, H', J', rz, c, rfl, qz⟩ := hq
  obtain rfl : r = Value.bool c := rz
  exact wpAny_pure ⟨.bl (!c), H', J', rfl, qz⟩
end Th
/-! a call of one of several defs that a dict hands out -/
namespace Th
open PySem PySem.Spec PyProof.Rows L2
theorem fun_ne {K : PySem.W.Frag} {x y q q' : Str} {st st' : Stmt} {f1 f2 : Addr} {fd1 fd2 : FuncData} (F1 : Fun K x q st f1 fd1) (F2 : Fun K y q' st' f2 fd2) (h : x ≠ y) : f1 ≠ f2 := fun e => by
  obtain ⟨oc, od, kV, doc, pm, an, cdv, ct, osl, e1, l1, _⟩ := F1.ex
  obtain ⟨oc', od', kV', doc', pm', an', cdv', ct', osl', e2, l2, _⟩ := F2.ex
  rw [e, l2] at l1
  cases l1
  rw [e1] at e2
  exact h (congrArg FuncData.name e2)
/-- which promise goes with an address -/
def SL (l : List (Addr × Sp)) (a : Addr) : Option Sp := (l.find? fun p => decide (p.1 = a)).map (·.2)
theorem SL_hd {a : Addr} {sp : Sp} {l : List (Addr × Sp)} : SL ((a, sp) :: l) a = some sp := by
  unfold SL
  rw [List.find?_cons, decide_eq_true rfl]
  rfl
theorem SL_tl {a b : Addr} {sp : Sp} {l : List (Addr × Sp)} {r : Option Sp} (n : b ≠ a) (h : SL l a = r) : SL ((b, sp) :: l) a = r := by
  rw [← h]
  unfold SL
  rw [List.find?_cons, decide_eq_false n]
theorem held_SL {P : Program} {w : World} {K : PySem.W.Frag} {mg : Str → Option Value} {base : Heap} {k : Nat} {l : List (Addr × Sp)} (h : ∀ p ∈ l, Held P w K mg base k p.1 p.2) : ∀ f sp, SL l f = some sp → Held P w K mg base k f sp := fun f sp e => by
  unfold SL at e
  obtain ⟨p, hp, rfl⟩ := Option.map_eq_some_iff.mp e
  have := h p (List.mem_of_find?_eq_some hp)
  have e2 : p.1 = f := of_decide_eq_true (p := p.1 = f) (by have z := List.find?_some hp; exact z)
  rw [← e2]
  exact this
theorem held_of {P : Program} {w : World} {K : PySem.W.Frag} {mg : Str → Option Value} {base : Heap} {j k : Nat} {f : Addr} {fd : FuncData} {ps : List Str} {sp : Sp} (F : FnOk P w K mg base CX0 j f fd ps sp) (hk : PySem.W.keepIn K (.ref f) = true) (hb : Binds K fd ps []) (h : j ≤ k) : Held P w K mg base k f sp := ⟨fd, ps, F.mono h, hk, hb⟩
end Th
/-! a book while numbers are drawn -/
namespace Th
open PySem PySem.Spec PyProof.Rows L2
mutual
/-- no list in it -/
def tupOnly : PyData → Bool
  | .list _ => false
  | .dict _ => false
  | .tuple ds => tupOnlys ds
  | _ => true
def tupOnlys : List PyData → Bool
  | [] => true
  | d :: r => tupOnly d && tupOnlys r
end
section
variable {K : PySem.W.Frag} {H : Hp} {p : Addr} {l : List V}
theorem tup_hid (st : H p = some (.lst l)) {a : Addr} {o : HO} (h : H a = some o) (n : o ≠ .lst l) : hid p H a = some o := by
  rw [hid_ne (fun z => n (by rw [z, st] at h; exact (Option.some.inj h).symm))]
  exact h
theorem sqT_hid (st : H p = some (.lst l)) {a : Addr} {xs : List V} (h : SqT K H a xs) : SqT K (hid p H) a xs := by
  rcases h with (h | ⟨o, h⟩) | h
  · exact .inl (.inl (tup_hid st h (fun z => by cases z)))
  · exact .inl (.inr ⟨o, tup_hid st h (fun z => by cases z)⟩)
  · exact .inr h
theorem tyT_hid (st : H p = some (.lst l)) {a : Addr} (h : TyX K H (.ref a) (.type "tuple")) : TyX K (hid p H) (.ref a) (.type "tuple") := by
  generalize ht : Value.type "tuple" = u at h
  have no : ∀ t : String, Value.type "tuple" = .type t → t ≠ "tuple" → False := fun t e n => n (Value.type.inj e).symm
  cases h with
  | kTuple h c => exact .kTuple h c
  | fTuple h => exact .fTuple (tup_hid st h (fun z => by cases z))
  | kList h c => exact (no _ ht (by decide)).elim
  | kDict h c => exact (no _ ht (by decide)).elim
  | set h => exact (no _ ht (by decide)).elim
  | fDict h => exact (no _ ht (by decide)).elim
  | base b =>
    refine .base ?_
    cases b with
    | tup h => exact .tup (tup_hid st h (fun z => by cases z))
    | lst h => exact (no _ ht (by decide)).elim
    | frz h => exact (no _ ht (by decide)).elim
    | dK h => exact (no _ ht (by decide)).elim
    | dT h => exact (no _ ht (by decide)).elim
    | ins h cl ha hn htk hm => cases ht
mutual
theorem Da.hidT (st : H p = some (.lst l)) : ∀ (d : PyData) (v : V), tupOnly d = true → Da K H v d → Da K (hid p H) v d
  | .none, _, _, h => by cases h; exact .non
  | .bool b, _, _, h => by cases h; exact .bl b
  | .int i, _, _, h => by cases h; exact .int i
  | .str x, _, _, h => by cases h; exact .str x
  | .list ds, _, t, _ => by cases t
  | .tuple ds, _, t, h => by
    cases h with
    | tup hs ht ha => exact .tup (sqT_hid st hs) (tyT_hid st ht) (DaAll.hidT st ds _ t ha)
  | .dict _, _, t, _ => by cases t
theorem DaAll.hidT (st : H p = some (.lst l)) : ∀ (ds : List PyData) (vs : List V), tupOnlys ds = true → DaAll K H vs ds → DaAll K (hid p H) vs ds
  | [], _, _, h => by cases h; exact .nil
  | d :: ds, _, t, h => by
    obtain ⟨t1, t2⟩ := Bool.and_eq_true_iff.mp (show (tupOnly d && tupOnlys ds) = true from t)
    cases h with
    | cons h1 h2 => exact .cons (Da.hidT st d _ t1 h1) (DaAll.hidT st ds _ t2 h2)
end
end
theorem tup_strs : ∀ xs : List Str, tupOnlys (xs.map .str) = true
  | [] => rfl
  | _ :: r => by
    show (true && tupOnlys (r.map .str)) = true
    rw [tup_strs r]
    rfl
theorem tup_words : ∀ ms : List (Str × List Str), tupOnlys (ms.map wOf) = true
  | [] => rfl
  | p :: r => by
    show ((true && (tupOnlys (p.2.map .str) && true)) && tupOnlys (r.map wOf)) = true
    rw [tup_words r, tup_strs]
    rfl
/-- a book stays while numbers are drawn -/
theorem BookW.go {K : PySem.W.Frag} {D : DS} {H H' : Hp} {C b : Addr} {ys : List Str} {ms : List (Str × List Str)} (h : BookW K H C b ys (ms.map wOf)) (ny : ys ≠ []) (d : Drw D H) (g : Go D H H') : BookW K H' C b ys (ms.map wOf) := by
  obtain ⟨dx, fa, wa, vs, e1, e2, e3, e4⟩ := h.ex
  obtain ⟨_, _, _, i, v, m, c, st, _⟩ := d
  have n1 : b ≠ D.p := fun z => by
    rw [z, st] at e1
    cases e1
  have n2 : fa ≠ D.p := fun z => by
    rw [z, st] at e2
    cases ys with
    | nil => exact ny rfl
    | cons y r => cases e2
  have n3 : wa ≠ D.p := fun z => by
    rw [z, st] at e3
    cases e3
    cases ms with
    | nil => cases e4
    | cons p0 r =>
      cases e4 with
      | cons h1 h2 =>
        cases r with
        | nil => cases h2
        | cons p1 r =>
          cases h2 with
          | cons h3 h4 => cases h3
  exact ⟨dx, fa, wa, vs, g.old n1 e1, g.old n2 e2, g.old n3 e3, ((DaAll.hidT st _ _ (tup_words ms) e4).to g.sm).to hid_same⟩
theorem tup_ne {D : DS} {H : Hp} {a : Addr} {us : List V} (d : Drw D H) (e : H a = some (.tup us)) : a ≠ D.p := fun z => by
  obtain ⟨_, _, _, i, v, m, c, st, _⟩ := d
  rw [z, st] at e
  cases e
end Th
namespace Th
open PySem PySem.Spec PyProof.Rows L2
def topS (i : Nat) : Stmt := PySem.Challenge.pw_threeorders_k17_entries_across_and_apart.main.body.getD i (.Pass ⟨0, 0, 0, 0⟩)
end Th
namespace Th
open PySem PySem.Spec PyProof.Rows L2
abbrev s_l_start : Stmt := topS 80
theorem sc_l_start : FnScope ["_law_script", "_law_own", "_law_mixed", "_law_cell"] ["_law_script", "_law_own"] (defScope s_l_start) := ⟨rfl, rfl, rfl, by decide +kernel, rfl, by decide +kernel, by decide +kernel⟩
/-- the list that draws is made -/
def spStart (K : PySem.W.Frag) : Sp := fun vs H Q _ => ∃ (a : Addr) (ns : List Int) (own : Int), vs = [.ref a, .int own] ∧ SqL K H a (ns.map V.int) ∧ ns.length ≤ 63 ∧ 0 ≤ own ∧ own < 2147483563 ∧
  ∀ H' (D : DS), Same H H' → H D.p = none → H D.l = none → Drw D H' → Q (.ref D.p) H'
section
variable {P : Program} {w : World} {K : PySem.W.Frag} {mg : Str → Option Value} {base : Heap} {CB : Addr}
theorem has_l_start (Z : Zs mg) (A : At K mg "_law_start" s_l_start ["_law_script", "_law_own"]) : Has P w K mg base "_law_start" s_l_start 1 ["_law_script", "_law_own"] (spStart K) := by
  obtain ⟨f, fd, F, mg1, bd⟩ := A
  refine ⟨f, fd, ?_, mg1, F.kp, bd, F⟩
  refine F.ok sc_l_start (fun vs H Q E h => ?_) (fun cdv A outer s H vs Q E hr h => ?_)
  · obtain ⟨a, ns, own, rfl, _⟩ := h
    rfl
  · obtain ⟨a, ns, own, rfl, hS, hlen, ho0, ho1, q⟩ := h
    refine ⟨_, (pss_cons (ps_set (i := 2) sc_l_start.nd rfl (Or.inl rfl) (pv 1)) (pss_cons (ps_for PassesOwn.never rfl (pi_list (pe_slice sl_list (pv 0) po_none (po_some pe_int))) (pg_name (i := 3) sc_l_start.nd rfl (Or.inl rfl)) (pss_one (ps_set (i := 2) sc_l_start.nd rfl (Or.inl rfl) (pe_op op_mod (pe_callTy call_int1 (by rfl) Z.int_ (by decide +kernel) (pa_cons (pe_op op_add (pe_op op_add (pe_op op_mul (pv 2) pe_int) (pe_op op_mod (pe_callTy call_int1 (by rfl) Z.int_ (by decide +kernel) (pa_cons (pv 3) pa_nil)) pe_int)) pe_int) pa_nil)) pe_int)))) (pss_one (ps_ret (pe_lst (pa_cons (pe_lc (own := [("_law_cell", 3)]) (g := gName 3) (by rfl) sc_l_start.nd (pi_list (pe_slice sl_list (pv 0) po_none (po_some pe_int))) (blkOk_by (own := [("_law_cell", 3)]) (N := ["_law_script", "_law_own", "_law_mixed", "_law_cell"]) (sc := defScope s_l_start) (by decide +kernel)) (fun _ _ _ _ _ => pg_name (i := 3) sc_l_start.nd rfl (Or.inl rfl)) (fun _ _ _ _ _ => pts_nil) (fun _ _ _ _ _ => (pe_callTy call_int1 (by rfl) Z.int_ (by decide +kernel) (pa_cons (pv 3) pa_nil)))) (pa_cons pe_int (pa_cons pe_int (pa_cons (pv 2) (pa_cons pe_int pa_nil)))))))))), ?_⟩
    have hl : (ns.map V.int).length ≤ 63 := by rw [List.length_map]; exact hlen
    -- the first number, then a turn for each cell
    refine ⟨_, rfl, _, rfl, 63, rfl, a, ns.map V.int, rfl, hS, fun c nc => ?_⟩
    rw [cut_none _ hl]
    have s1 : Same H (upd H c (.lst (ns.map V.int))) := same_new nc
    refine ⟨c, rfl, ⟨ns.map V.int, .inl (.inl upd_same)⟩, for_list (K := K) (a := c) (xs := ns.map V.int) (fun i σ H2 => ∃ (m : Int) (y : Option V), σ = [some (.ref a), some (.int own), some (.int m), y] ∧ Same H H2 ∧ H2 c = some (.lst (ns.map V.int)) ∧ 0 ≤ m ∧ m < 2147483563)
      ⟨own, none, rfl, s1, upd_same, ho0, ho1⟩ (fun i σ H2 _ ⟨_, _, _, _, e, _⟩ => .inl (.inl e)) ?_ ?_⟩
    · rintro i y σ H2 hi ⟨m, y', rfl, s2, e2, m0, m1⟩
      obtain ⟨z, _, rfl⟩ := getmap hi
      refine ⟨_, rfl, _, _, rfl, rfl, .inl ⟨by omega, by omega⟩, _, rfl, .inl ⟨_, rfl, _, _, rfl, rfl, (by show (0 : Int) < 2147483549; decide), _, _, rfl, rfl, _, _, rfl, rfl, .inl ⟨_, rfl, _, _, rfl, rfl, (by show (0 : Int) < 2147483563; decide), ?_⟩⟩⟩
      exact ⟨_, _, rfl, s2, e2, Int.emod_nonneg _ (by decide), Int.emod_lt_of_pos _ (by decide)⟩
    · rintro σ H2 ⟨m, y', rfl, s2, e2, m0, m1⟩
      -- the list's copy, and the list that draws
      refine ⟨_, rfl, 63, rfl, a, ns.map V.int, rfl, s2.seq hS, fun c2 nc2 => ?_⟩
      rw [cut_none _ hl]
      have s3 : Same H (upd H2 c2 (.lst (ns.map V.int))) := s2.trans (same_new nc2)
      refine ⟨c2, rfl, ⟨_, .inl (.inl upd_same)⟩, fun l nl => ?_⟩
      have ncl : c2 ≠ l := fun e => by rw [← e, upd_same] at nl; cases nl
      refine lc_list (K := K) (a := c2) (xs := ns.map V.int) (fun i H3 => Same H H3 ∧ H3 c2 = some (.lst (ns.map V.int)) ∧ H3 l = some (.lst ((ns.take i).map V.int)))
        ⟨s3.trans (same_new nl), by rw [upd_ne ncl]; exact upd_same, upd_same⟩ (fun i H3 _ ⟨_, e, _⟩ => .inl (.inl e)) ?_ ?_
      · rintro i y H3 hi ⟨s4, e4, e5⟩
        obtain ⟨z, hz, rfl⟩ := getmap hi
        have hz' := lt_of_get hz
        refine ⟨rfl, _, rfl, .inl ⟨_, rfl, _, e5, slineL (by rw [List.length_map, List.length_take]; omega), ?_⟩⟩
        refine ⟨same_mut s4 (s3.free nl), by rw [upd_ne ncl]; exact e4, ?_⟩
        rw [upd_same, take_succ_map hz]
      · rintro H3 ⟨s4, e4, e5⟩
        rw [List.length_map, List.take_length] at e5
        refine ⟨_, rfl, (by show 5 ≤ sizeLine; decide), fun p np => ?_⟩
        refine q _ ⟨p, l, ns⟩ (s4.trans (same_new np)) (s4.free np) (s3.free nl) ⟨ne_of_none e5 np, ?_, hlen, 0, 0, m, 0, upd_same, by decide, by decide, m0, by omega, by decide⟩
        rw [upd_ne (ne_of_none e5 np)]
        exact e5
end
end Th
namespace Th
open PySem PySem.Spec PyProof.Rows L2
abbrev s_l_draw : Stmt := topS 81
theorem sc_l_draw : FnScope ["_law_state", "_law_many", "_law_cell", "_law_digit", "_law_base"] ["_law_state", "_law_many"] (defScope s_l_draw) := ⟨rfl, rfl, rfl, by decide +kernel, rfl, by decide +kernel, by decide +kernel⟩
/-- a number below n is drawn -/
def spDraw : Sp := fun vs H Q _ => ∃ (D : DS) (n : Int), vs = [.ref D.p, .int n] ∧ Drw D H ∧ 0 < n ∧ n < 1073741824 ∧ ∀ (r : Int) H', 0 ≤ r → r < n → Go D H H' → Q (.int r) H'
/-- the list that draws holds other numbers -/
theorem Go.put {D : DS} {H : Hp} (ne : D.l ≠ D.p) (sc : H D.l = some (.lst (D.ns.map V.int))) (few : D.ns.length ≤ 63) {xs : List V} (st : H D.p = some (.lst xs)) {H' : Hp} {i v m c : Int} (e : H' = upd H D.p (.lst [.ref D.l, .int i, .int v, .int m, .int c]))
    (hi : 0 ≤ i) (hv : 0 ≤ v) (m0 : 0 ≤ m) (m1 : m < 2147483648) (hc : 0 ≤ c) : Go D H H' := by
  subst e
  refine ⟨fun a o h => ?_, ne, ?_, few, i, v, m, c, upd_same, hi, hv, m0, m1, hc⟩
  · obtain ⟨z, h⟩ := hid_some h
    rw [hid_ne z, upd_ne z]
    exact h
  · rw [upd_ne ne]
    exact sc
section
variable {P : Program} {w : World} {K : PySem.W.Frag} {mg : Str → Option Value} {base : Heap} {CB : Addr}
theorem has_l_draw (Z : Zs mg) (A : At K mg "_law_draw" s_l_draw ["_law_state", "_law_many"]) : Has P w K mg base "_law_draw" s_l_draw 1 ["_law_state", "_law_many"] (spDraw) := by
  obtain ⟨f, fd, F, mg1, bd⟩ := A
  refine ⟨f, fd, ?_, mg1, F.kp, bd, F⟩
  refine F.ok sc_l_draw (fun vs H Q E h => ?_) (fun cdv A outer s H vs Q E hr h => ?_)
  · obtain ⟨D, n, rfl, _⟩ := h
    rfl
  · obtain ⟨D, n, rfl, d, n0, n1, q⟩ := h
    obtain ⟨ne, sc, few, i, v, m, c, st, hi, hv, m0, m1, hc⟩ := id d
    refine ⟨_, (C8.pss_cut (ps_if (PW.pt (pw_and (pt_cmpR op_eq (pe_ix ix_list (pv 0) pe_int (fun _ _ => rfl)) pe_int (nomark _)) (pw_and1 (pt_cmpR op_lt (pe_ix ix_list (pv 0) pe_int (fun _ _ => rfl)) (pe_callB call_len_seq (by rfl) Z.len_ (by decide +kernel) (pa_cons (pe_ix ix_list (pv 0) pe_int (fun _ _ => rfl)) pa_nil)) (nomark _))))) (pss_cons (ps_set (i := 2) sc_l_draw.nd rfl (Or.inl rfl) (pe_ix ix_list (pe_ix ix_list (pv 0) pe_int (fun _ _ => rfl)) (pe_ix ix_list (pv 0) pe_int (fun _ _ => rfl)) (fun _ _ => rfl))) (pss_cons (ps_asg (pe_op op_add (pe_ix ix_list (pv 0) pe_int (fun _ _ => rfl)) pe_int) (pg_sub (pv 0) pe_int set_list)) (pss_one (ps_if (pt_cmpR op_ge (pe_callB call_abs (by rfl) Z.abs_ (by decide +kernel) (pa_cons (pv 2) pa_nil)) (pe_op op_pow pe_int pe_int) (nomark _)) (pss_one (ps_asg (pe_callB call_abs (by rfl) Z.abs_ (by decide +kernel) (pa_cons (pv 2) pa_nil)) (pg_sub (pv 0) pe_int set_list))) pss_nil)))) pss_nil) (pss_cons (ps_if (pt_cmpR op_gt (pe_ix ix_list (pv 0) pe_int (fun _ _ => rfl)) pe_int (nomark _)) (pss_cons (ps_set (i := 3) sc_l_draw.nd rfl (Or.inl rfl) (pe_op op_mod (pe_callTy call_int1 (by rfl) Z.int_ (by decide +kernel) (pa_cons (pe_ix ix_list (pv 0) pe_int (fun _ _ => rfl)) pa_nil)) (pv 1))) (pss_cons (ps_asg (pe_op op_fdiv (pe_callTy call_int1 (by rfl) Z.int_ (by decide +kernel) (pa_cons (pe_ix ix_list (pv 0) pe_int (fun _ _ => rfl)) pa_nil)) (pv 1)) (pg_sub (pv 0) pe_int set_list)) (pss_one (ps_ret (pv 3))))) pss_nil) (pss_cons (ps_asg (pe_op op_add (pe_ix ix_list (pv 0) pe_int (fun _ _ => rfl)) pe_int) (pg_sub (pv 0) pe_int set_list)) (pss_cons (ps_set (i := 4) sc_l_draw.nd rfl (Or.inl rfl) (pe_op op_mod (pe_callTy call_int1 (by rfl) Z.int_ (by decide +kernel) (pa_cons (pe_op op_add (pe_ix ix_list (pv 0) pe_int (fun _ _ => rfl)) (pe_op op_mul (pe_ix ix_list (pv 0) pe_int (fun _ _ => rfl)) pe_int)) pa_nil)) pe_int)) (pss_cons (ps_asg (pe_op op_mod (pe_callTy call_int1 (by rfl) Z.int_ (by decide +kernel) (pa_cons (pe_op op_add (pe_op op_add (pe_op op_pow (pv 4) pe_int) (pe_op op_mul pe_int (pv 4))) pe_int) pa_nil)) pe_int) (pg_sub (pv 0) pe_int set_list)) (pss_one (ps_ret (pe_op op_mod (pe_callTy call_int1 (by rfl) Z.int_ (by decide +kernel) (pa_cons (pe_op op_add (pe_op op_fdiv (pe_ix ix_list (pv 0) pe_int (fun _ _ => rfl)) pe_int) (pe_op op_mul (pe_op op_mod (pe_callTy call_int1 (by rfl) Z.int_ (by decide +kernel) (pa_cons (pe_ix ix_list (pv 0) pe_int (fun _ _ => rfl)) pa_nil)) pe_int) pe_int)) pa_nil)) (pv 1))))))))), ?_⟩
    have ix0 : ∀ i v m c : Int, atI [V.ref D.l, .int i, .int v, .int m, .int c] 0 = some (.ref D.l) := fun _ _ _ _ => rfl
    have ix1 : ∀ i v m c : Int, atI [V.ref D.l, .int i, .int v, .int m, .int c] 1 = some (.int i) := fun _ _ _ _ => rfl
    have ix2 : ∀ i v m c : Int, atI [V.ref D.l, .int i, .int v, .int m, .int c] 2 = some (.int v) := fun _ _ _ _ => rfl
    have ix3 : ∀ i v m c : Int, atI [V.ref D.l, .int i, .int v, .int m, .int c] 3 = some (.int m) := fun _ _ _ _ => rfl
    have ix4 : ∀ i v m c : Int, atI [V.ref D.l, .int i, .int v, .int m, .int c] 4 = some (.int c) := fun _ _ _ _ => rfl
    refine ⟨fun σ H1 => ∃ (i v : Int) (y : Option V), σ = [some (.ref D.p), some (.int n), y, none, none] ∧ H1 D.p = some (.lst [.ref D.l, .int i, .int v, .int m, .int c]) ∧ H1 D.l = some (.lst (D.ns.map V.int)) ∧ Go D H H1 ∧ 0 ≤ i ∧ 0 ≤ v, ?_, ?_⟩
    · -- a cell of the script is taken, or not
      have stay : ∃ (i v : Int) (y : Option V), [some (V.ref D.p), some (V.int n), none, none, none] = [some (.ref D.p), some (.int n), y, none, none] ∧ H D.p = some (.lst [.ref D.l, .int i, .int v, .int m, .int c]) ∧ H D.l = some (.lst (D.ns.map V.int)) ∧ Go D H H ∧ 0 ≤ i ∧ 0 ≤ v :=
        ⟨i, v, none, rfl, st, sc, .refl d, hi, hv⟩
      refine ⟨_, rfl, D.p, _, _, _, rfl, rfl, .inl (.inl st), ix2 _ _ _ _, rfl, _, rfl, ?_⟩
      refine ite2 (fun hv0 => ?_) (fun hv0 => iteF stay)
      refine ⟨_, rfl, D.p, _, _, _, rfl, rfl, .inl (.inl st), ix1 _ _ _ _, _, rfl, D.p, _, _, _, rfl, rfl, .inl (.inl st), ix0 _ _ _ _, D.l, _, rfl, .inl (.inl (.inl sc)), _, _, rfl, rfl, _, rfl, ?_⟩
      refine ite2 (fun hi1 => ?_) (fun hi1 => stay)
      have hi2 : i < D.ns.length := by
        have := of_decide_eq_true hi1
        rw [List.length_map] at this
        exact this
      obtain ⟨z, hz⟩ : ∃ z, D.ns[i.toNat]? = some z := ⟨_, List.getElem?_eq_getElem (by omega)⟩
      -- cell = state[0][state[1]]
      refine ⟨_, rfl, D.p, _, _, _, rfl, rfl, .inl (.inl st), ix0 _ _ _ _, _, rfl, D.p, _, _, _, rfl, rfl, .inl (.inl st), ix1 _ _ _ _, D.l, _, _, _, rfl, rfl, .inl (.inl sc), atI_of hi (by rw [List.getElem?_map, hz]; rfl), ?_⟩
      -- state[1] = state[1] + 1
      refine ⟨_, rfl, D.p, _, _, _, rfl, rfl, .inl (.inl st), ix1 _ _ _ _, _, _, rfl, rfl, _, rfl, D.p, _, _, 1, rfl, rfl, st, rfl, ?_⟩
      have g1 : Go D H (upd H D.p (.lst [V.ref D.l, .int (i + 1), .int v, .int m, .int c])) := Go.put ne sc few st rfl (by omega) hv m0 m1 hc
      have e1 : (upd H D.p (.lst [V.ref D.l, .int (i + 1), .int v, .int m, .int c])) D.l = some (.lst (D.ns.map V.int)) := by rw [upd_ne ne]; exact sc
      -- if abs(cell) is great
      refine ⟨_, rfl, _, rfl, _, _, rfl, rfl, ⟨by decide, by decide, by decide⟩, _, _, rfl, rfl, _, rfl, ?_⟩
      refine ite2 (fun hb => ?_) (fun hb => ?_)
      · refine ⟨_, rfl, _, rfl, _, rfl, D.p, _, _, 2, rfl, rfl, upd_same, rfl, ?_⟩
        rw [upd_upd]
        have hz0 : 0 ≤ (if z < 0 then -z else z) := by split <;> omega
        exact ⟨i + 1, _, _, rfl, upd_same, by rw [upd_ne ne]; exact sc, Go.put ne sc few st rfl (by omega) hz0 m0 m1 hc, by omega, hz0⟩
      · exact ⟨i + 1, v, _, rfl, upd_same, e1, g1, by omega, hv⟩
    · -- a digit of the great number, or a fresh one
      rintro σ H1 ⟨i, v, y, rfl, st, sc, g, hi, hv⟩
      refine ⟨_, rfl, D.p, _, _, _, rfl, rfl, .inl (.inl st), ix2 _ _ _ _, _, _, rfl, rfl, _, rfl, ?_⟩
      refine ite2 (fun hv0 => ?_) (fun hv0 => ?_)
      · refine ⟨_, rfl, D.p, _, _, _, rfl, rfl, .inl (.inl st), ix2 _ _ _ _, .inl ⟨_, rfl, _, rfl, _, _, rfl, rfl, n0, ?_⟩⟩
        refine ⟨_, rfl, D.p, _, _, _, rfl, rfl, .inl (.inl st), ix2 _ _ _ _, .inl ⟨_, rfl, _, rfl, _, _, rfl, rfl, ⟨n0, n1⟩, _, rfl, D.p, _, _, 2, rfl, rfl, st, rfl, ?_⟩⟩
        refine ⟨_, rfl, ?_⟩
        exact q _ _ (Int.emod_nonneg _ (by omega)) (Int.emod_lt_of_pos _ n0) (g.trans (Go.put ne sc few st rfl hi (Int.ediv_nonneg hv (by omega)) m0 m1 hc))
      · -- state[4] = state[4] + 1
        refine ⟨_, rfl, D.p, _, _, _, rfl, rfl, .inl (.inl st), ix4 _ _ _ _, _, _, rfl, rfl, _, rfl, D.p, _, _, 4, rfl, rfl, st, rfl, ?_⟩
        have st2 : (upd H1 D.p (.lst [V.ref D.l, .int i, .int v, .int m, .int (c + 1)])) D.p = some (.lst [V.ref D.l, .int i, .int v, .int m, .int (c + 1)]) := upd_same
        refine ⟨_, rfl, D.p, _, _, _, rfl, rfl, .inl (.inl st2), ix3 _ _ _ _, _, rfl, D.p, _, _, _, rfl, rfl, .inl (.inl st2), ix4 _ _ _ _, _, _, rfl, rfl, .inr ⟨by decide, by decide⟩, _, _, rfl, rfl, .inl ⟨_, rfl, _, _, rfl, rfl, (by show (0 : Int) < 2147483563; decide), ?_⟩⟩
        refine ⟨_, rfl, _, _, rfl, rfl, ⟨by decide, by decide, by omega⟩, _, rfl, _, _, rfl, rfl, .inl ⟨by decide, by decide⟩, _, _, rfl, rfl, _, _, rfl, rfl, .inl ⟨_, rfl, _, _, rfl, rfl, (by show (0 : Int) < 2147483563; decide), _, rfl, D.p, _, _, 3, rfl, rfl, st2, rfl, ?_⟩⟩
        rw [upd_upd]
        have st3 : ∀ r : Int, (upd H1 D.p (.lst [V.ref D.l, .int i, .int v, .int r, .int (c + 1)])) D.p = some (.lst [V.ref D.l, .int i, .int v, .int r, .int (c + 1)]) := fun r => upd_same
        refine ⟨_, rfl, D.p, _, _, _, rfl, rfl, .inl (.inl (st3 _)), ix3 _ _ _ _, _, _, rfl, rfl, ⟨by decide, by decide⟩, _, rfl, D.p, _, _, _, rfl, rfl, .inl (.inl (st3 _)), ix3 _ _ _ _, .inl ⟨_, rfl, _, _, rfl, rfl, (by show (0 : Int) < 6047; decide), _, _, rfl, rfl, .inr ⟨by decide, by decide⟩, _, _, rfl, rfl, .inl ⟨_, rfl, _, rfl, _, _, rfl, rfl, n0, ?_⟩⟩⟩
        exact q _ _ (Int.emod_nonneg _ (by omega)) (Int.emod_lt_of_pos _ n0) (g.trans (Go.put ne sc few st rfl hi hv (Int.emod_nonneg _ (by decide)) (Int.lt_trans (Int.emod_lt_of_pos (b := 2147483563) _ (by decide)) (by decide)) (by omega)))
end
end Th
namespace Th
open PySem PySem.Spec PyProof.Rows L2
abbrev s_l_pick : Stmt := topS 82
theorem sc_l_pick : FnScope ["_law_state", "_law_pool"] ["_law_state", "_law_pool"] (defScope s_l_pick) := ⟨rfl, rfl, rfl, by decide +kernel, rfl, by decide +kernel, by decide +kernel⟩
/-- one of the things of a list -/
def spPick (K : PySem.W.Frag) : Sp := fun vs H Q _ => ∃ (D : DS) (q : Addr) (xs : List V), vs = [.ref D.p, .ref q] ∧ Drw D H ∧ SqL K (hid D.p H) q xs ∧ 0 < xs.length ∧ xs.length ≤ 1000 ∧ ∀ (i : Nat) (v : V) H', xs[i]? = some v → Go D H H' → Q v H'

/-- one of the things of a list or a tuple -/
def spPickA (K : PySem.W.Frag) : Sp := fun vs H Q _ => ∃ (D : DS) (q : Addr) (xs : List V), vs = [.ref D.p, .ref q] ∧ Drw D H ∧ (SqL K (hid D.p H) q xs ∨ SqT K (hid D.p H) q xs) ∧ 0 < xs.length ∧ xs.length ≤ 1000 ∧ ∀ (i : Nat) (v : V) H', xs[i]? = some v → Go D H H' → Q v H'
def spPickC (K : PySem.W.Frag) : Bool → Sp
  | true => spPickA K
  | false => spPick K
theorem pick_up {K : PySem.W.Frag} (lt : Bool) {vs : List V} {H : Hp} {Q : VK} {E : XK} (h : spPickC K lt vs H Q E) : spPickA K vs H Q E := by
  cases lt with
  | true => exact h
  | false =>
    obtain ⟨D, p, xs, e, d, hS, r⟩ := h
    exact ⟨D, p, xs, e, d, .inl hS, r⟩
section
variable {P : Program} {w : World} {K : PySem.W.Frag} {mg : Str → Option Value} {base : Heap} {CB : Addr}
theorem has_l_pick (lt : Bool) (Z : Zs mg) (A : At K mg "_law_pick" s_l_pick ["_law_state", "_law_pool"]) (h_l_draw : Has P w K mg base "_law_draw" s_l_draw 1 ["_law_state", "_law_many"] (spDraw)) : Has P w K mg base "_law_pick" s_l_pick 2 ["_law_state", "_law_pool"] (spPickC K lt) := by
  obtain ⟨f, fd, F, mg1, bd⟩ := A
  obtain ⟨f_l_draw, fd_l_draw, G_l_draw, m_l_draw, k_l_draw, b_l_draw, F_l_draw⟩ := h_l_draw
  refine ⟨f, fd, ?_, mg1, F.kp, bd, F⟩
  refine F.ok sc_l_pick (fun vs H Q E h => ?_) (fun cdv A outer s H vs Q E hr h => ?_)
  · obtain ⟨D, p, xs, rfl, _⟩ := pick_up lt h
    rfl
  · obtain ⟨D, p, xs, rfl, d, hS, h0, h1, q⟩ := pick_up lt h
    refine ⟨_, (pss_one (ps_ret (pe_ix ix_seq (pv 1) (pe_call G_l_draw (hr.mono (by decide)) (by rfl) m_l_draw k_l_draw b_l_draw .nil pass0 (pa_cons (pv 0) (pa_cons (pe_callB call_len_seq (by rfl) Z.len_ (by decide +kernel) (pa_cons (pv 1) pa_nil)) pa_nil))) (fun _ _ => rfl)))), ?_⟩
    have up : ∀ H', Go D H H' → (SqL K H' p xs ∨ SqT K H' p xs) := fun H' g => hS.imp (fun z => hid_same.seq (g.sm.seq z)) (fun z => same_t hid_same (same_t g.sm z))
    refine ⟨_, rfl, _, rfl, _, rfl, p, xs, rfl, up H (.refl d), D, _, rfl, d, by omega, by omega, fun r H' r0 r1 g => ?_⟩
    obtain ⟨v, hv⟩ : ∃ v, xs[r.toNat]? = some v := ⟨_, List.getElem?_eq_getElem (by omega)⟩
    rcases up H' g with z | z
    · exact .inl ⟨p, xs, r, v, rfl, rfl, z, atI_of r0 hv, q _ v H' hv g⟩
    · exact .inr (.inl ⟨p, xs, r, v, rfl, rfl, z, atI_of r0 hv, q _ v H' hv g⟩)
end
end Th
namespace Th
open PySem PySem.Spec PyProof.Rows L2
abbrev s_l_letters : Stmt := topS 84
theorem sc_l_letters : FnScope [] [] (defScope s_l_letters) := ⟨rfl, rfl, rfl, by decide +kernel, rfl, by decide +kernel, by decide +kernel⟩
def spLetters : Sp := fun vs H Q _ => vs = [] ∧ Q (.str abc) H
section
variable {P : Program} {w : World} {K : PySem.W.Frag} {mg : Str → Option Value} {base : Heap} {CB : Addr}
theorem has_l_letters (Z : Zs mg) (A : At K mg "_law_letters" s_l_letters []) : Has P w K mg base "_law_letters" s_l_letters 1 [] (spLetters) := by
  obtain ⟨f, fd, F, mg1, bd⟩ := A
  refine ⟨f, fd, ?_, mg1, F.kp, bd, F⟩
  refine F.ok sc_l_letters (fun vs H Q E h => ?_) (fun cdv A outer s H vs Q E hr h => ?_)
  · obtain ⟨rfl, _⟩ := h
    rfl
  · obtain ⟨rfl, q⟩ := h
    exact ⟨_, (pss_one (ps_ret pe_str)), q⟩
end
end Th
namespace Th
open PySem PySem.Spec PyProof.Rows L2
abbrev s_l_word : Stmt := topS 85
theorem sc_l_word : FnScope ["_law_state", "_law_longest", "_law_k"] ["_law_state", "_law_longest"] (defScope s_l_word) := ⟨rfl, rfl, rfl, by decide +kernel, rfl, by decide +kernel, by decide +kernel⟩
/-- a text of 1 to n small letters -/
def spWord (K : PySem.W.Frag) : Sp := fun vs H Q _ => ∃ (D : DS) (n : Int), vs = [.ref D.p, .int n] ∧ Drw D H ∧ 0 < n ∧ n ≤ 1000 ∧ ∀ (x : Str) H', Lw x → 1 ≤ x.length → (x.length : Int) ≤ n → Go D H H' → Q (.str x) H'
theorem word_len : ∀ l : List Nat, ((l.map fun k => (⟨#[let_ k]⟩ : Str)).map cs).flatten = l.map let_
  | [] => rfl
  | k :: r => by
    rw [List.map_cons, List.map_cons, List.flatten_cons, word_len r]
    rfl
theorem word_sum : ∀ l : List Nat, ((l.map fun k => (⟨#[let_ k]⟩ : Str)).map (·.length)).sum = l.length
  | [] => rfl
  | k :: r => by
    rw [List.map_cons, List.map_cons, List.sum_cons, word_sum r, List.length_cons]
    show 1 + r.length = r.length + 1
    omega
section
variable {P : Program} {w : World} {K : PySem.W.Frag} {mg : Str → Option Value} {base : Heap} {CB : Addr}
theorem has_l_word (Z : Zs mg) (A : At K mg "_law_word" s_l_word ["_law_state", "_law_longest"]) (h_l_draw : Has P w K mg base "_law_draw" s_l_draw 1 ["_law_state", "_law_many"] (spDraw)) (h_l_letters : Has P w K mg base "_law_letters" s_l_letters 1 [] (spLetters)) : Has P w K mg base "_law_word" s_l_word 2 ["_law_state", "_law_longest"] (spWord K) := by
  obtain ⟨f, fd, F, mg1, bd⟩ := A
  obtain ⟨f_l_draw, fd_l_draw, G_l_draw, m_l_draw, k_l_draw, b_l_draw, F_l_draw⟩ := h_l_draw
  obtain ⟨f_l_letters, fd_l_letters, G_l_letters, m_l_letters, k_l_letters, b_l_letters, F_l_letters⟩ := h_l_letters
  refine ⟨f, fd, ?_, mg1, F.kp, bd, F⟩
  refine F.ok sc_l_word (fun vs H Q E h => ?_) (fun cdv A outer s H vs Q E hr h => ?_)
  · obtain ⟨D, n, rfl, _⟩ := h
    rfl
  · obtain ⟨D, n, rfl, d, n0, n1, q⟩ := h
    refine ⟨_, (pss_one (ps_ret (pe_join pe_str (pe_lc (own := [("_law_k", 2)]) (g := gName 2) (by rfl) sc_l_word.nd (pi_range1 (by rfl) Z.range_ (pa_cons (pe_op op_add pe_int (pe_call G_l_draw (hr.mono (by decide)) (by rfl) m_l_draw k_l_draw b_l_draw .nil pass0 (pa_cons (pv 0) (pa_cons (pv 1) pa_nil)))) pa_nil)) (blkOk_by (own := [("_law_k", 2)]) (N := ["_law_state", "_law_longest", "_law_k"]) (sc := defScope s_l_word) (by decide +kernel)) (fun _ _ _ _ _ => pg_name (i := 2) sc_l_word.nd rfl (Or.inl rfl)) (fun _ _ _ _ _ => pts_nil) (fun _ _ _ _ _ => (pe_ix ix_str (pe_call0 G_l_letters (hr.mono (by decide)) (by rfl) m_l_letters k_l_letters b_l_letters .nil pass0) (pe_call G_l_draw (hr.mono (by decide)) (by rfl) m_l_draw k_l_draw b_l_draw .nil pass0 (pa_cons (pv 0) (pa_cons pe_int pa_nil))) (fun _ _ => rfl))))))), ?_⟩
    refine ⟨⟨_, rfl⟩, _, rfl, _, rfl, D, n, rfl, d, n0, by omega, fun r H1 r0 r1 g => ⟨_, _, rfl, rfl, _, rfl, by omega, by omega, fun L nL => ?_⟩⟩
    have nLp := g.st.ne_new nL
    refine lc_range (lo := 0) (n := (1 + r).toNat) (fun i H2 => ∃ l : List Nat, l.length = i ∧ (∀ k ∈ l, k < 26) ∧ Go D H H2 ∧ H2 L = some (.lst ((l.map fun k => (⟨#[let_ k]⟩ : Str)).map V.str)))
      ⟨[], rfl, (fun _ z => nomatch z), g.new nL, upd_same⟩ ?_ ?_
    · rintro i H2 hi ⟨l, hl, hk, g2, e2⟩
      refine ⟨rfl, rfl, _, rfl, D, 26, rfl, g2.st, by decide, by decide, fun k H3 k0 k1 g3 => ⟨abc, k, let_ k.toNat, rfl, rfl, sline_abc, atI_let k0 k1, _, g3.old nLp e2, slineL (by rw [List.length_map, List.length_map]; omega), ?_⟩⟩
      refine ⟨l ++ [k.toNat], by rw [List.length_append, hl]; rfl, fun z hz => ?_, (g2.trans g3).mut d (g.free d nL), ?_⟩
      · rcases List.mem_append.mp hz with hz | hz
        · exact hk z hz
        · rw [List.mem_singleton.mp hz]; omega
      · rw [upd_same, List.map_append, List.map_append]
        rfl
    · rintro H2 ⟨l, hl, hk, g2, e2⟩
      refine ⟨_, L, _, rfl, rfl, .inl (.inl (.inl e2)), ?_, ?_⟩
      · rw [word_sum, List.length_map, show (Str.ofString "").length = 0 from rfl]
        omega
      · have ec : cs (Txt.join (Str.ofString "") (l.map fun k => (⟨#[let_ k]⟩ : Str))) = l.map let_ := by
          unfold Txt.join
          rw [PySem.StrLaws.glued_eq_join]
          exact (cs_join _).trans (word_len l)
        refine q _ _ (fun c hc => ?_) ?_ ?_ g2
        · rw [ec] at hc
          obtain ⟨k, hk1, rfl⟩ := List.mem_map.mp hc
          exact let_mem (hk k hk1)
        · rw [cs_len, ec, List.length_map]; omega
        · rw [cs_len, ec, List.length_map]; omega
end
end Th
namespace Th
open PySem PySem.Spec PyProof.Rows L2
abbrev s_l_shuffle : Stmt := topS 83
theorem sc_l_shuffle : FnScope ["_law_state", "_law_pool", "_law_some", "_law_x"] ["_law_state", "_law_pool"] (defScope s_l_shuffle) := ⟨rfl, rfl, rfl, by decide +kernel, rfl, by decide +kernel, by decide +kernel⟩
/-- the things of a list in any order, in a new list -/
def spShuffle (K : PySem.W.Frag) : Sp := fun vs H Q _ => ∃ (D : DS) (q : Addr) (xs : List V), vs = [.ref D.p, .ref q] ∧ Drw D H ∧ SqL K (hid D.p H) q xs ∧ xs.length ≤ 1000 ∧
  ∀ (r : Addr) (ys : List V) H', ys.Perm xs → H r = none → H' r = some (.lst ys) → Go D H H' → Q (.ref r) H'
theorem ins_perm (ys : List V) (i : Nat) (v : V) : (ys.take i ++ [v] ++ ys.drop i).Perm (ys ++ [v]) := by
  have a : (ys.take i ++ [v] ++ ys.drop i).Perm (v :: (ys.take i ++ ys.drop i)) := by
    rw [List.append_assoc]
    exact List.perm_middle
  rw [List.take_append_drop] at a
  exact a.trans (List.perm_append_singleton _ _).symm
section
variable {P : Program} {w : World} {K : PySem.W.Frag} {mg : Str → Option Value} {base : Heap} {CB : Addr}
theorem has_l_shuffle (Z : Zs mg) (A : At K mg "_law_shuffle" s_l_shuffle ["_law_state", "_law_pool"]) (h_l_draw : Has P w K mg base "_law_draw" s_l_draw 1 ["_law_state", "_law_many"] (spDraw)) : Has P w K mg base "_law_shuffle" s_l_shuffle 2 ["_law_state", "_law_pool"] (spShuffle K) := by
  obtain ⟨f, fd, F, mg1, bd⟩ := A
  obtain ⟨f_l_draw, fd_l_draw, G_l_draw, m_l_draw, k_l_draw, b_l_draw, F_l_draw⟩ := h_l_draw
  refine ⟨f, fd, ?_, mg1, F.kp, bd, F⟩
  refine F.ok sc_l_shuffle (fun vs H Q E h => ?_) (fun cdv A outer s H vs Q E hr h => ?_)
  · obtain ⟨D, p, xs, rfl, _⟩ := h
    rfl
  · obtain ⟨D, p, xs, rfl, d, hS, h1, q⟩ := h
    refine ⟨_, (pss_cons (ps_set (i := 2) sc_l_shuffle.nd rfl (Or.inl rfl) (pe_lst pa_nil)) (pss_cons (ps_for PassesOwn.never rfl (pi_list (pv 1)) (pg_name (i := 3) sc_l_shuffle.nd rfl (Or.inl rfl)) (pss_one (ps_expr (pe_bm PySem.F.plainAttrs_list PySem.F.slot_list_insert PySem.F.type_list_insert mt_insert (pv 2) (pa_cons (pe_call G_l_draw (hr.mono (by decide)) (by rfl) m_l_draw k_l_draw b_l_draw .nil pass0 (pa_cons (pv 0) (pa_cons (pe_op op_add (pe_callB call_len_seq (by rfl) Z.len_ (by decide +kernel) (pa_cons (pv 2) pa_nil)) pe_int) pa_nil))) (pa_cons (pv 3) pa_nil)))))) (pss_one (ps_ret (pv 2))))), ?_⟩
    refine ⟨Nat.zero_le _, fun r nr => ?_⟩
    have nrp := d.ne_new nr
    refine ⟨_, rfl, p, rfl, ⟨xs, (same_new nr).seq (hid_same.seq hS)⟩, for_list (K := K) (a := p) (xs := xs) (fun i σ H2 => ∃ (y : Option V) (ys : List V), σ = [some (.ref D.p), some (.ref p), some (.ref r), y] ∧ Go D H H2 ∧ H2 r = some (.lst ys) ∧ ys.Perm (xs.take i))
      ⟨none, [], rfl, (Go.refl d).new nr, upd_same, List.Perm.nil⟩ (fun i σ H2 _ ⟨_, _, _, g, _⟩ => hid_same.seq (g.sm.seq hS)) ?_ ?_⟩
    · rintro i v σ H2 hi ⟨y, ys, rfl, g, er, pm⟩
      have hil := lt_of_get hi
      have hlen : ys.length = i := by rw [pm.length_eq, List.length_take]; omega
      refine ⟨_, rfl, .inl ⟨rfl, _, .inl (.inl er)⟩, _, rfl, _, rfl, r, ys, rfl, .inl (.inl (.inl er)), _, _, rfl, rfl, D, _, rfl, g.st, by omega, by omega, fun k H3 k0 k1 g3 => ?_⟩
      refine ⟨_, rfl, r, ys, k, v, rfl, rfl, g3.old nrp er, slineL (by omega), k0, by omega, ?_⟩
      refine ⟨_, _, rfl, (g.trans g3).mut d nr, upd_same, (ins_perm ys k.toNat v).trans ?_⟩
      rw [List.take_add_one, hi]
      exact pm.append_right [v]
    · rintro σ H2 ⟨y, ys, rfl, g, er, pm⟩
      rw [List.take_length] at pm
      exact ⟨_, rfl, q r ys H2 pm nr er g⟩
end
end Th
namespace Th
open PySem PySem.Spec PyProof.Rows L2
abbrev s_l_names : Stmt := topS 86
theorem sc_l_names : FnScope ["_law_state", "_law_many", "_law_first", "_law_stride", "_law_letters_here", "_law_k", "_law_signs", "_law_way", "_law_stem", "_law_spot", "_law_sign", "_law_known", "_law_some", "_law_longer", "_law_tag", "_law_spare"] ["_law_state", "_law_many"] (defScope s_l_names) := ⟨rfl, rfl, rfl, by decide +kernel, rfl, by decide +kernel, by decide +kernel⟩
/-- n names, each once, in a new list -/
def spNames (K : PySem.W.Frag) : Sp := fun vs H Q _ => ∃ (D : DS) (n : Int), vs = [.ref D.p, .int n] ∧ Drw D H ∧ 0 < n ∧ n ≤ 40 ∧ ∀ (r : Addr) (xs : List Str) H', Nms xs → (xs.length : Int) = n → H r = none → H' r = some (.lst (xs.map V.str)) → Go D H H' → Q (.ref r) H'
section
variable {P : Program} {w : World} {K : PySem.W.Frag} {mg : Str → Option Value} {base : Heap} {CB : Addr}
theorem has_l_names (Z : Zs mg) (A : At K mg "_law_names" s_l_names ["_law_state", "_law_many"]) (h_l_draw : Has P w K mg base "_law_draw" s_l_draw 1 ["_law_state", "_law_many"] (spDraw)) (h_l_pick : Has P w K mg base "_law_pick" s_l_pick 2 ["_law_state", "_law_pool"] (spPick K)) (h_l_letters : Has P w K mg base "_law_letters" s_l_letters 1 [] (spLetters)) (h_l_word : Has P w K mg base "_law_word" s_l_word 2 ["_law_state", "_law_longest"] (spWord K)) (h_l_shuffle : Has P w K mg base "_law_shuffle" s_l_shuffle 2 ["_law_state", "_law_pool"] (spShuffle K)) : Has P w K mg base "_law_names" s_l_names 3 ["_law_state", "_law_many"] (spNames K) := by
  obtain ⟨f, fd, F, mg1, bd⟩ := A
  obtain ⟨f_l_draw, fd_l_draw, G_l_draw, m_l_draw, k_l_draw, b_l_draw, F_l_draw⟩ := h_l_draw
  obtain ⟨f_l_pick, fd_l_pick, G_l_pick, m_l_pick, k_l_pick, b_l_pick, F_l_pick⟩ := h_l_pick
  obtain ⟨f_l_letters, fd_l_letters, G_l_letters, m_l_letters, k_l_letters, b_l_letters, F_l_letters⟩ := h_l_letters
  obtain ⟨f_l_word, fd_l_word, G_l_word, m_l_word, k_l_word, b_l_word, F_l_word⟩ := h_l_word
  obtain ⟨f_l_shuffle, fd_l_shuffle, G_l_shuffle, m_l_shuffle, k_l_shuffle, b_l_shuffle, F_l_shuffle⟩ := h_l_shuffle
  refine ⟨f, fd, ?_, mg1, F.kp, bd, F⟩
  refine F.ok sc_l_names (fun vs H Q E h => ?_) (fun cdv A outer s H vs Q E hr h => ?_)
  · obtain ⟨D, n, rfl, _⟩ := h
    rfl
  · obtain ⟨D, n, rfl, d, n0, n1, q⟩ := h
    refine ⟨_, (pss_cons (ps_asg (pe_tup (pa_cons (pe_call G_l_draw (hr.mono (by decide)) (by rfl) m_l_draw k_l_draw b_l_draw .nil pass0 (pa_cons (pv 0) (pa_cons pe_int pa_nil))) (pa_cons (pe_call G_l_pick (hr.mono (by decide)) (by rfl) m_l_pick k_l_pick b_l_pick .nil pass0 (pa_cons (pv 0) (pa_cons (pe_lst (pa_cons pe_int (pa_cons pe_int (pa_cons pe_int (pa_cons pe_int (pa_cons pe_int (pa_cons pe_int (pa_cons pe_int pa_nil)))))))) pa_nil))) pa_nil))) (pg_tup (by rfl) (pgs_cons (pg_name (i := 2) sc_l_names.nd rfl (Or.inr rfl)) (pgs_cons (pg_name (i := 3) sc_l_names.nd rfl (Or.inr rfl)) pgs_nil)))) (pss_cons (ps_set (i := 4) sc_l_names.nd rfl (Or.inr rfl) (pe_lc (own := [("_law_k", 5)]) (g := gName 5) (by rfl) sc_l_names.nd (pi_range1 (by rfl) Z.range_ (pa_cons (pv 1) pa_nil)) (blkOk_by (own := [("_law_k", 5)]) (N := ["_law_state", "_law_many", "_law_first", "_law_stride", "_law_letters_here", "_law_k", "_law_signs", "_law_way", "_law_stem", "_law_spot", "_law_sign", "_law_known", "_law_some", "_law_longer", "_law_tag", "_law_spare"]) (sc := defScope s_l_names) (by decide +kernel)) (fun _ _ _ _ _ => pg_name (i := 5) sc_l_names.nd rfl (Or.inl rfl)) (fun _ _ _ _ _ => pts_nil) (fun _ _ _ _ _ => (pe_ix ix_str (pe_call0 G_l_letters (hr.mono (by decide)) (by rfl) m_l_letters k_l_letters b_l_letters .nil pass0) (pe_op op_mod (pe_callTy call_int1 (by rfl) Z.int_ (by decide +kernel) (pa_cons (pe_op op_add (pv 2) (pe_op op_mod (pe_op op_mul (pv 3) (pe_callTy call_int1 (by rfl) Z.int_ (by decide +kernel) (pa_cons (pv 5) pa_nil))) pe_int)) pa_nil)) pe_int) (fun _ _ => rfl))))) (pss_cons (ps_setLc (i := 6) (own := [("_law_k", 5)]) (g := gName 5) (by rfl) sc_l_names.nd rfl rfl (sw_true rfl rfl rfl (by decide +kernel)) (pi_range1 (by rfl) Z.range_ (pa_cons (pv 1) pa_nil)) (blkOk_by (own := [("_law_k", 5)]) (N := ["_law_state", "_law_many", "_law_first", "_law_stride", "_law_letters_here", "_law_k", "_law_signs", "_law_way", "_law_stem", "_law_spot", "_law_sign", "_law_known", "_law_some", "_law_longer", "_law_tag", "_law_spare"]) (sc := defScope s_l_names) (by decide +kernel)) (fun _ _ _ _ _ => pg_name (i := 5) sc_l_names.nd rfl (Or.inl rfl)) (fun _ _ _ _ _ => pts_nil) (fun _ _ _ _ _ => (pe_op op_add_str (pe_ix (show IxR _ (rIxL K) from ix_list) (pv 4) (pv 5) (fun _ _ => rfl)) (pe_ifExp (pt_cmpR op_lt (pv 5) pe_int (nomark _)) pe_str (pe_ix ix_str (pe_call0 G_l_letters (hr.mono (by decide)) (by rfl) m_l_letters k_l_letters b_l_letters .nil pass0) (pe_op op_fdiv (pv 5) pe_int) (fun _ _ => rfl)))))) (pss_cons (ps_asg (pe_tup (pa_cons (pe_call G_l_draw (hr.mono (by decide)) (by rfl) m_l_draw k_l_draw b_l_draw .nil pass0 (pa_cons (pv 0) (pa_cons pe_int pa_nil))) (pa_cons (pe_call G_l_word (hr.mono (by decide)) (by rfl) m_l_word k_l_word b_l_word .nil pass0 (pa_cons (pv 0) (pa_cons pe_int pa_nil))) pa_nil))) (pg_tup (by rfl) (pgs_cons (pg_name (i := 7) sc_l_names.nd rfl (Or.inl rfl)) (pgs_cons (pg_name (i := 8) sc_l_names.nd rfl (Or.inr rfl)) pgs_nil)))) (pss_cons (ps_if (pt_cmpR op_eq (pv 7) pe_int (nomark _)) (pss_cons (ps_set (i := 9) sc_l_names.nd rfl (Or.inr rfl) (pe_call G_l_draw (hr.mono (by decide)) (by rfl) m_l_draw k_l_draw b_l_draw .nil pass0 (pa_cons (pv 0) (pa_cons (pe_op op_add (pe_callB call_len_str (by rfl) Z.len_ (by decide +kernel) (pa_cons (pv 8) pa_nil)) pe_int) pa_nil)))) (pss_one (ps_ret (pe_lc (own := [("_law_sign", 10)]) (g := gName 10) (by rfl) sc_l_names.nd (pi_list (pv 6)) (blkOk_by (own := [("_law_sign", 10)]) (N := ["_law_state", "_law_many", "_law_first", "_law_stride", "_law_letters_here", "_law_k", "_law_signs", "_law_way", "_law_stem", "_law_spot", "_law_sign", "_law_known", "_law_some", "_law_longer", "_law_tag", "_law_spare"]) (sc := defScope s_l_names) (by decide +kernel)) (fun _ _ _ _ _ => pg_name (i := 10) sc_l_names.nd rfl (Or.inl rfl)) (fun _ _ _ _ _ => pts_nil) (fun _ _ _ _ _ => (pe_op op_add_str (pe_op op_add_str (pe_slice sl_str (pv 8) po_none (po_some (pv 9))) (pv 10)) (pe_slice sl_str (pv 8) (po_some (pv 9)) po_none))))))) pss_nil) (pss_cons (ps_if (pt_cmpR op_eq (pv 7) pe_int (nomark _)) (pss_cons (ps_set (i := 11) sc_l_names.nd rfl (Or.inl rfl) (pe_lst (pa_cons pe_str (pa_cons pe_str (pa_cons pe_str (pa_cons pe_str (pa_cons pe_str (pa_cons pe_str (pa_cons pe_str (pa_cons pe_str (pa_cons pe_str (pa_cons pe_str (pa_cons pe_str (pa_cons pe_str pa_nil)))))))))))))) (pss_one (ps_ret (pe_call G_l_shuffle (hr.mono (by decide)) (by rfl) m_l_shuffle k_l_shuffle b_l_shuffle .nil pass0 (pa_cons (pv 0) (pa_cons (pe_slice sl_list (pe_op op_cat (pe_call G_l_shuffle (hr.mono (by decide)) (by rfl) m_l_shuffle k_l_shuffle b_l_shuffle .nil pass0 (pa_cons (pv 0) (pa_cons (pv 11) pa_nil))) (pv 6)) po_none (po_some (pv 1))) pa_nil)))))) pss_nil) (pss_cons (ps_set (i := 12) sc_l_names.nd rfl (Or.inr rfl) (pe_lst pa_nil)) (pss_cons (ps_for PassesOwn.never rfl (pi_range1 (by rfl) Z.range_ (pa_cons (pv 1) pa_nil)) (pg_name (i := 5) sc_l_names.nd rfl (Or.inl rfl)) (C8.pss_cut (ps_set (i := 13) sc_l_names.nd rfl (Or.inl rfl) (pe_and (pe_cmpR op_gt (pv 5) pe_int (nomark _)) (pe_one (pe_cmpR op_eq (pe_call G_l_draw (hr.mono (by decide)) (by rfl) m_l_draw k_l_draw b_l_draw .nil pass0 (pa_cons (pv 0) (pa_cons pe_int pa_nil))) pe_int (nomark _))))) (C8.pss_cut (ps_set (i := 14) sc_l_names.nd rfl (Or.inl rfl) (pe_ifExp (pt_val (pv 13)) (pe_slice sl_str (pe_op op_add_str (pe_ix ix_list (pv 12) (pe_call G_l_draw (hr.mono (by decide)) (by rfl) m_l_draw k_l_draw b_l_draw .nil pass0 (pa_cons (pv 0) (pa_cons (pv 5) pa_nil))) (fun _ _ => rfl)) (pe_call G_l_word (hr.mono (by decide)) (by rfl) m_l_word k_l_word b_l_word .nil pass0 (pa_cons (pv 0) (pa_cons pe_int pa_nil)))) po_none (po_some pe_int)) (pe_call G_l_word (hr.mono (by decide)) (by rfl) m_l_word k_l_word b_l_word .nil pass0 (pa_cons (pv 0) (pa_cons pe_int pa_nil))))) (pss_cons (ps_setLc (i := 15) (own := [("_law_sign", 10)]) (g := gName 10) (by rfl) sc_l_names.nd rfl rfl (sw_true rfl rfl rfl (by decide +kernel)) (pi_list (pv 6)) (blkOk_by (own := [("_law_sign", 10)]) (N := ["_law_state", "_law_many", "_law_first", "_law_stride", "_law_letters_here", "_law_k", "_law_signs", "_law_way", "_law_stem", "_law_spot", "_law_sign", "_law_known", "_law_some", "_law_longer", "_law_tag", "_law_spare"]) (sc := defScope s_l_names) (by decide +kernel)) (fun _ _ _ _ _ => pg_name (i := 10) sc_l_names.nd rfl (Or.inl rfl)) (fun _ _ _ _ _ => (pts_one (pt_cmpR (show OpR _ (compareOp .NotIn) (rIn K true) from op_notIn_seq) (pv 10) (pv 12) (by rfl)))) (fun _ _ _ _ _ => (pv 10))) (pss_one (ps_expr (pe_bm PySem.F.plainAttrs_list PySem.F.slot_list_append PySem.F.type_list_append mt_append (pv 12) (pa_cons (pe_ifExp (pt_cmpR op_in_seq (pv 14) (pv 12) (by rfl)) (pe_ix ix_list (pv 15) pe_int (fun _ _ => rfl)) (pv 14)) pa_nil)))))))) (pss_one (ps_ret (pv 12))))))))))), ?_⟩
    refine ⟨_, rfl, D, 26, rfl, d, by decide, by decide, fun a H1 a0 a1 g1 => ⟨_, rfl, (by show 7 ≤ sizeLine; decide), fun u nu => ?_⟩⟩
    have nup := g1.st.ne_new nu
    refine ⟨D, u, _, rfl, g1.st.new nu, sqh nup upd_same, by show 0 < 7; decide, by show 7 ≤ 1000; decide, fun i v H2 hv g2 => ?_⟩
    obtain ⟨b, hb, hb2, rfl⟩ := stride_of hv
    obtain ⟨a, rfl⟩ := Int.eq_ofNat_of_zero_le a0
    have ha : a < 26 := by omega
    refine ⟨(by show 2 ≤ sizeLine; decide), fun t nt => ⟨t, _, rfl, .inl (.inl upd_same), rfl, _, _, rfl, _, _, rfl, rfl, ?_⟩⟩
    have g3 := ((g1.new nu).trans g2).new (o := .tup [.int (a : Int), .int (b : Int)]) nt
    generalize upd H2 t (.tup [.int (a : Int), .int (b : Int)]) = H3 at g3 ⊢
    -- the first letters
    refine ⟨_, rfl, _, rfl, by omega, by omega, fun L nL => ?_⟩
    have nLp := g3.st.ne_new nL
    refine lc_range (lo := 0) (n := n.toNat) (fun i H4 => Go D H H4 ∧ H4 L = some (.lst ((List.range i).map fun k => V.str (sg1 a b k)))) ⟨g3.new nL, upd_same⟩ ?_ ?_
    · rintro i H4 hi ⟨g4, e4⟩
      refine ⟨rfl, rfl, _, rfl, _, rfl, _, rfl, .inl ⟨_, rfl, _, _, rfl, rfl, .inl ⟨by omega, by omega⟩, _, _, rfl, rfl, (by show (0 : Int) < 26; decide), _, _, rfl, rfl, .inl ⟨_, rfl, _, _, rfl, rfl, (by show (0 : Int) < 26; decide), abc, _, let_ ((a + b * i % 26) % 26), rfl, rfl, sline_abc, ?_, _, e4, slineL (by rw [List.length_map, List.length_range]; omega), ?_⟩⟩⟩
      · rw [ixe]
        exact atI_nat (xs := cs abc) (let_at (Nat.mod_lt _ (by decide)))
      · exact ⟨g4.mut d (g3.free d nL), by rw [upd_same, mapr]; rfl⟩
    rintro H4 ⟨g4, eL⟩
    -- the signs
    refine ⟨_, rfl, _, rfl, by omega, by omega, fun S nS => ?_⟩
    have nSp := g4.st.ne_new nS
    have nSL : L ≠ S := ne_of_none eL nS
    refine lc_range (lo := 0) (n := n.toNat) (fun i H5 => Go D H H5 ∧ H5 L = some (.lst ((List.range n.toNat).map fun k => V.str (sg1 a b k))) ∧ H5 S = some (.lst ((List.range i).map fun k => V.str (sgn a b k))))
      ⟨g4.new nS, by rw [upd_ne nSL]; exact eL, upd_same⟩ ?_ ?_
    · rintro i H5 hi ⟨g5, eL5, eS5⟩
      have lS : ((List.range i).map fun k => V.str (sgn a b k)).length < sizeLine := slineL (by rw [List.length_map, List.length_range]; omega)
      refine ⟨rfl, _, rfl, _, rfl, L, _, _, _, rfl, rfl, .inl (.inl eL5), atI_of (by omega) (by rw [show ((0 : Int) + (i : Int)).toNat = i by omega]; exact getr _ hi), _, rfl, _, _, rfl, rfl, _, rfl, ?_⟩
      have fin : ∀ H6, H6 = H5 → ∃ acc, H6 S = some (.lst acc) ∧ acc.length < sizeLine ∧ Go D H (upd H6 S (.lst (acc ++ [V.str (sgn a b i)]))) ∧ (upd H6 S (.lst (acc ++ [V.str (sgn a b i)]))) L = some (.lst ((List.range n.toNat).map fun k => V.str (sg1 a b k))) ∧
          (upd H6 S (.lst (acc ++ [V.str (sgn a b i)]))) S = some (.lst ((List.range (i + 1)).map fun k => V.str (sgn a b k))) := fun H6 e => by
        subst e
        exact ⟨_, eS5, lS, g5.mut d (g4.free d nS), by rw [upd_ne nSL]; exact eL5, by rw [upd_same, mapr]⟩
      refine ite2 (fun hk => ?_) (fun hk => ?_)
      · have hk' : i < 26 := by have := of_decide_eq_true hk; omega
        refine ⟨_, _, rfl, rfl, by show 1 + 0 ≤ sizeLine; decide, ?_⟩
        have e : sg1 a b i ++ (Str.ofString "") = sgn a b i := by
          unfold sgn
          rw [if_pos hk']
          rfl
        rw [e]
        exact fin _ rfl
      · have hk' : ¬ i < 26 := fun z => hk (decide_eq_true (by omega))
        refine ⟨rfl, _, rfl, _, _, rfl, rfl, ⟨by decide, by decide⟩, abc, _, let_ (i / 26), rfl, rfl, sline_abc, ?_, _, _, rfl, rfl, by show 1 + 1 ≤ sizeLine; decide, ?_⟩
        · rw [show ((0 : Int) + (i : Int)) / 26 = ((i / 26 : Nat) : Int) by omega]
          exact atI_nat (xs := cs abc) (let_at (by omega))
        · have e : sg1 a b i ++ (⟨#[let_ (i / 26)]⟩ : Str) = sgn a b i := by
            unfold sgn
            rw [if_neg hk']
            rfl
          rw [e]
          exact fin _ rfl
    rintro H5 ⟨g5, eL5, eS5⟩
    have eS : ((List.range n.toNat).map fun k => V.str (sgn a b k)) = (sgns a b n.toNat).map V.str := by
      unfold sgns
      rw [List.map_map]
      rfl
    rw [eS] at eS5
    clear eS eL5 nSL
    have freeS := g4.free d nS
    clear eL nS g4 nL nLp g3
    -- way, stem
    refine ⟨_, rfl, D, 4, rfl, g5.st, by decide, by decide, fun way H6 w0 w1 g6 => ⟨_, rfl, D, 4, rfl, g6.st, by decide, by decide, fun stem H7 k1 k2 k3 g7 => ?_⟩⟩
    refine ⟨(by show 2 ≤ sizeLine; decide), fun t2 nt2 => ⟨t2, _, rfl, .inl (.inl upd_same), rfl, _, _, rfl, _, _, rfl, rfl, ?_⟩⟩
    have g8 := ((g5.trans g6).trans g7).new (o := .tup [.int way, .str stem]) nt2
    have eS8 : (upd H7 t2 (.tup [.int way, .str stem])) S = some (.lst ((sgns a b n.toNat).map V.str)) := by
      have q1 := g7.old nSp (g6.old nSp eS5)
      rw [upd_ne (ne_of_none q1 nt2)]
      exact q1
    generalize upd H7 t2 (.tup [.int way, .str stem]) = H8 at g8 eS8 ⊢
    have lenS : (sgns a b n.toNat).length = n.toNat := sgns_len a b n.toNat
    have l40 : n.toNat ≤ 40 := by omega
    refine ⟨_, rfl, rfl, _, rfl, ?_⟩
    refine ite2 (fun hw => ?_) (fun hw => ?_)
    · -- a stem around each sign
      refine ⟨_, rfl, _, rfl, _, rfl, sline (by omega), _, _, rfl, rfl, D, _, rfl, g8.st, by omega, by omega, fun spot H9 s0 s1 g9 => ?_⟩
      have eS9 := g9.old nSp eS8
      refine ⟨_, rfl, S, rfl, ⟨_, .inl (.inl eS9)⟩, fun R nR => ?_⟩
      have nRp := g9.st.ne_new nR
      have nRS : S ≠ R := ne_of_none eS9 nR
      have freeR := (g8.trans g9).free d nR
      refine lc_list (K := K) (a := S) (xs := (sgns a b n.toNat).map V.str) (fun i H10 => Go D H H10 ∧ H10 S = some (.lst ((sgns a b n.toNat).map V.str)) ∧ H10 R = some (.lst ((((sgns a b n.toNat).map (stm stem spot.toNat)).take i).map V.str)))
        ⟨(g8.trans g9).new nR, by rw [upd_ne nRS]; exact eS9, upd_same⟩ (fun i H10 _ z => .inl (.inl z.2.1)) ?_ ?_
      · rintro i y H10 hi ⟨g10, e1, e2⟩
        obtain ⟨x, hx, rfl⟩ := getmap hi
        have hxm := sgns_mem l40 (List.mem_of_getElem? hx)
        have hlt := lt_of_get hx
        have c1 := cutS_length stem none (some spot)
        have c2 := cutS_length stem (some spot) none
        refine ⟨rfl, _, rfl, _, rfl, spot, rfl, stem, rfl, sline (by omega), _, rfl, _, _, rfl, rfl, sline (by omega), _, rfl, _, rfl, spot, rfl, stem, rfl, sline (by omega), _, _, rfl, rfl, sline ?_, ?_⟩
        · show ((cutS stem none (some spot)).cps ++ x.cps).size + _ ≤ 100000
          rw [Array.size_append]
          have z1 : (cutS stem none (some spot)).cps.size = (cutS stem none (some spot)).length := rfl
          have z2 : x.cps.size = x.length := rfl
          omega
        · rw [stm_eq s0 (by omega)]
          refine ⟨_, e2, slineL (by rw [List.length_map, List.length_take]; omega), g10.mut d freeR, by rw [upd_ne nRS]; exact e1, ?_⟩
          rw [upd_same, take_succ_map (f := V.str) (x := stm stem spot.toNat x) (by rw [List.getElem?_map, hx]; rfl)]
      · rintro H10 ⟨g10, e1, e2⟩
        rw [List.length_map, show (sgns a b n.toNat).length = ((sgns a b n.toNat).map (stm stem spot.toNat)).length from (List.length_map _).symm, List.take_length] at e2
        exact q R _ H10 (nms_stem k1 (by omega) ha hb l40) (by rw [List.length_map, lenS]; omega) freeR e2 g10
    refine ⟨_, rfl, rfl, _, rfl, ?_⟩
    refine ite2 (fun hw1 => ?_) (fun hw1 => ?_)
    · -- words of the texts ahead
      refine ⟨(by show 12 ≤ sizeLine; decide), fun c nc => ?_⟩
      have ncp := g8.st.ne_new nc
      have g9 := g8.new (o := .lst (kno.map V.str)) nc
      have eS9 : (upd H8 c (.lst (kno.map V.str))) S = some (.lst ((sgns a b n.toNat).map V.str)) := by rw [upd_ne (ne_of_none eS8 nc)]; exact eS8
      have ec9 : (upd H8 c (.lst (kno.map V.str))) c = some (.lst (kno.map V.str)) := upd_same
      show _
      refine ⟨_, rfl, _, rfl, _, rfl, D, c, kno.map V.str, rfl, g9.st, sqh ncp ec9, by show 12 ≤ 1000; decide, fun r ys H10 pm nr er g10 => ?_⟩
      obtain ⟨zs, rfl, pz⟩ := perm_strs pm
      have lz : zs.length = 12 := pz.length_eq
      have eS10 := g10.old nSp eS9
      refine ⟨_, rfl, r, S, _, _, rfl, rfl, er, eS10, sline (by rw [List.length_map, List.length_map]; omega), fun e ne_ => ?_⟩
      have nep := g10.st.ne_new ne_
      rw [← List.map_append]
      refine ⟨_, rfl, n, rfl, e, _, rfl, .inl (.inl upd_same), fun v nv => ?_⟩
      have nvp := ((g9.trans g10).new ne_).st.ne_new nv
      rw [cut_to _ (by omega), ← List.map_take]
      have nm := nms_known ha hb l40 pz n.toNat
      have lm : ((zs ++ sgns a b n.toNat).take n.toNat).length = n.toNat := by rw [List.length_take, List.length_append]; omega
      generalize (zs ++ sgns a b n.toNat).take n.toNat = ws at nm lm ⊢
      refine ⟨D, v, ws.map V.str, rfl, (((g9.trans g10).new ne_).new nv).st, sqh nvp upd_same, by rw [List.length_map]; omega, fun r2 ys2 H11 pm2 nr2 er2 g11 => ?_⟩
      obtain ⟨zs2, rfl, pz2⟩ := perm_strs pm2
      have gg := ((g9.trans g10).new ne_).new (o := .lst (ws.map V.str)) nv
      exact q r2 zs2 H11 ⟨pz2.nodup_iff.mpr nm.1, fun x hx => nm.2 x (pz2.mem_iff.mp hx)⟩ (by rw [pz2.length_eq, lm]; omega) (gg.free d nr2) er2 (gg.trans g11)
    · -- names one by one
      refine ⟨Nat.zero_le _, fun R nR => ?_⟩
      have nRp := g8.st.ne_new nR
      have nRS : S ≠ R := ne_of_none eS8 nR
      have freeR := g8.free d nR
      refine ⟨_, rfl, n, rfl, by omega, by omega, for_range (lo := 0) (n := n.toNat) (fun i σ H9 => ∃ (xs : List Str) (y1 y2 y3 y4 : Option V), σ = [some (.ref D.p), some (.int n), some (.int a), some (.int b), some (.ref L), y1, some (.ref S), some (.int way), some (.str stem), none, none, none, some (.ref R), y2, y3, y4] ∧
          Go D H H9 ∧ H9 S = some (.lst ((sgns a b n.toNat).map V.str)) ∧ H9 R = some (.lst (xs.map V.str)) ∧ Nms xs ∧ xs.length = i)
        ⟨[], none, none, none, none, rfl, g8.new nR, by rw [upd_ne nRS]; exact eS8, upd_same, ⟨List.nodup_nil, fun _ z => nomatch z⟩, rfl⟩ ?_ ?_⟩
      · rintro i σ H9 hi ⟨xs, y1, y2, y3, y4, rfl, g9, e1, e2, nm, lx⟩
        have lxs : (xs.map V.str).length ≤ 40 := by rw [List.length_map]; omega
        refine ⟨fun σ H10 => ∃ (c : Bool) (y3 y4 : Option V), σ = [some (.ref D.p), some (.int n), some (.int a), some (.int b), some (.ref L), some (.int (0 + (i : Int))), some (.ref S), some (.int way), some (.str stem), none, none, none, some (.ref R), some (.bl c), y3, y4] ∧
          Go D H H10 ∧ H10 S = some (.lst ((sgns a b n.toNat).map V.str)) ∧ H10 R = some (.lst (xs.map V.str)) ∧ (c = true → 0 < i), ?_, ?_⟩
        · refine ⟨_, rfl, _, _, rfl, rfl, _, rfl, ?_⟩
          refine ite2 (fun hp => ?_) (fun hp => ?_)
          · have hp' : 0 < i := by have := of_decide_eq_true hp; omega
            refine ⟨_, rfl, D, 3, rfl, g9.st, by decide, by decide, fun r H10 r0 r1 g10 => ⟨rfl, _, _, _, rfl, g9.trans g10, g10.old nSp e1, g10.old nRp e2, fun _ => hp'⟩⟩
          · exact ⟨_, _, _, rfl, g9, e1, e2, fun z => nomatch z⟩
        rintro σ H10 ⟨c, y3, y4, rfl, g10, e3, e4, hc⟩
        refine ⟨fun σ H11 => ∃ (tag : Str) (y4 : Option V), σ = [some (.ref D.p), some (.int n), some (.int a), some (.int b), some (.ref L), some (.int (0 + (i : Int))), some (.ref S), some (.int way), some (.str stem), none, none, none, some (.ref R), some (.bl c), some (.str tag), y4] ∧
          Go D H H11 ∧ H11 S = some (.lst ((sgns a b n.toNat).map V.str)) ∧ H11 R = some (.lst (xs.map V.str)) ∧ isNm tag = true, ?_, ?_⟩
        · refine ⟨_, rfl, c, rfl, ?_⟩
          cases c with
          | true =>
            refine iteT ?_
            have hp' := hc rfl
            refine ⟨_, rfl, _, rfl, _, rfl, D, _, rfl, g10.st, by omega, by omega, fun r H11 r0 r1 g11 => ?_⟩
            obtain ⟨v, hv⟩ : ∃ v, xs[r.toNat]? = some v := ⟨_, List.getElem?_eq_getElem (by omega)⟩
            have hvn := nm.2 v (List.mem_of_getElem? hv)
            refine ⟨R, _, r, .str v, rfl, rfl, .inl (.inl (g11.old nRp e4)), atI_of r0 (by rw [List.getElem?_map, hv]; rfl), ?_⟩
            refine ⟨_, rfl, D, 1, rfl, g11.st, by decide, by decide, fun x H12 x1 x2 x3 g12 => ?_⟩
            have hvl := isNm_len hvn
            have hz : (v ++ x).length ≤ 100000 := by rw [cs_len, cs_app, List.length_append, ← cs_len, ← cs_len]; omega
            refine ⟨_, _, rfl, rfl, sline (by omega), 6, rfl, _, rfl, sline hz, ?_⟩
            exact ⟨_, _, rfl, (g10.trans g11).trans g12, g12.old nSp (g11.old nSp e3), g12.old nRp (g11.old nRp e4), nm_long hvn x1⟩
          | false =>
            refine iteF ?_
            refine ⟨_, rfl, D, 6, rfl, g10.st, by decide, by decide, fun x H12 x1 x2 x3 g12 => ?_⟩
            exact ⟨_, _, rfl, g10.trans g12, g12.old nSp e3, g12.old nRp e4, nm_word x1 x2 x3⟩
        rintro σ H11 ⟨tag, y4, rfl, g11, e5, e6, ht⟩
        refine ⟨_, rfl, S, rfl, ⟨_, .inl (.inl e5)⟩, fun T nT => ?_⟩
        have nTp := g11.st.ne_new nT
        have nTS : S ≠ T := ne_of_none e5 nT
        have nTR : R ≠ T := ne_of_none e6 nT
        refine lc_list (K := K) (a := S) (xs := (sgns a b n.toNat).map V.str) (fun i H12 => Go D H H12 ∧ H12 S = some (.lst ((sgns a b n.toNat).map V.str)) ∧ H12 R = some (.lst (xs.map V.str)) ∧ H12 T = some (.lst ((((sgns a b n.toNat).take i).filter (fun s => !decide (s ∈ xs))).map V.str)))
          ⟨g11.new nT, by rw [upd_ne nTS]; exact e5, by rw [upd_ne nTR]; exact e6, upd_same⟩ (fun i H12 _ z => .inl (.inl z.2.1)) ?_ ?_
        · rintro j y H12 hj ⟨g12, z1, z2, z3⟩
          obtain ⟨x, hx, rfl⟩ := getmap hj
          have hlt := lt_of_get hx
          have hl3 : ((((sgns a b n.toNat).take j).filter (fun s => !decide (s ∈ xs))).map V.str).length < sizeLine := by
            refine slineL ?_
            rw [List.length_map]
            have q1 := List.length_filter_le (fun s => !decide (s ∈ xs)) ((sgns a b n.toNat).take j)
            rw [List.length_take] at q1
            omega
          have step : ((sgns a b n.toNat).take (j + 1)).filter (fun s => !decide (s ∈ xs)) = ((sgns a b n.toNat).take j).filter (fun s => !decide (s ∈ xs)) ++ (if x ∈ xs then [] else [x]) := by
            rw [List.take_add_one, hx, List.filter_append]
            by_cases hm : x ∈ xs
            · simp [hm]
            · simp [hm]
          refine ⟨rfl, _, rfl, _, rfl, R, _, rfl, .inl (.inl (.inl z2)), rfl, flatS xs, _, rfl, ?_⟩
          rw [inS]
          refine ite2 (fun hm => ?_) (fun hm => ?_)
          · have hm' : x ∉ xs := by simpa using hm
            refine ⟨_, rfl, _, z3, hl3, g12.mut d (g11.free d nT), by rw [upd_ne nTS]; exact z1, by rw [upd_ne nTR]; exact z2, ?_⟩
            rw [upd_same, step, if_neg hm', List.map_append]
            rfl
          · have hm' : x ∈ xs := by simpa using hm
            refine ⟨g12, z1, z2, ?_⟩
            rw [z3, step, if_pos hm', List.append_nil]
        · rintro H12 ⟨g12, z1, z2, z3⟩
          rw [List.length_map, List.take_length] at z3
          refine ⟨_, rfl, .inl ⟨rfl, _, .inl (.inl z2)⟩, _, rfl, _, rfl, R, _, rfl, .inl (.inl (.inl z2)), rfl, flatS xs, _, rfl, ?_⟩
          rw [inS]
          have app : ∀ x : Str, isNm x = true → x ∉ xs → ∃ l ys w, V.ref R = V.ref l ∧ [V.str x] = [w] ∧ H12 l = some (.lst ys) ∧ ys.length < sizeLine ∧
              ∃ (xs' : List Str) (y1 y2 y3 y4 : Option V), [some (V.ref D.p), some (V.int n), some (V.int a), some (V.int b), some (V.ref L), some (V.int (0 + (i : Int))), some (V.ref S), some (V.int way), some (V.str stem), none, none, none, some (V.ref R), some (V.bl c), some (V.str tag), some (V.ref T)] =
                [some (.ref D.p), some (.int n), some (.int a), some (.int b), some (.ref L), y1, some (.ref S), some (.int way), some (.str stem), none, none, none, some (.ref R), y2, y3, y4] ∧
                Go D H (upd H12 l (.lst (ys ++ [w]))) ∧ (upd H12 l (.lst (ys ++ [w]))) S = some (.lst ((sgns a b n.toNat).map V.str)) ∧ (upd H12 l (.lst (ys ++ [w]))) R = some (.lst (xs'.map V.str)) ∧ Nms xs' ∧ xs'.length = i + 1 := fun x hx hn =>
            ⟨R, _, _, rfl, rfl, z2, slineL (by omega), xs ++ [x], _, _, _, _, rfl, g12.mut d freeR, by rw [upd_ne nRS]; exact z1, by rw [upd_same, List.map_append]; rfl, nm.snoc hx hn, by rw [List.length_append, lx]; rfl⟩
          refine ite2 (fun hm => ?_) (fun hm => ?_)
          · obtain ⟨s0, r0, hs0⟩ := spare_left (xs := xs) (sgns_nodup ha hb l40) (by omega)
            rw [hs0] at z3
            refine ⟨_, rfl, T, _, 0, .str s0, rfl, rfl, .inl (.inl z3), atI_of (by decide) rfl, ?_⟩
            have hs1 : s0 ∈ (sgns a b n.toNat).filter (fun s => !decide (s ∈ xs)) := by rw [hs0]; exact List.mem_cons_self
            obtain ⟨hs2, hs3⟩ := List.mem_filter.mp hs1
            obtain ⟨q1, q2, q3⟩ := sgns_mem l40 hs2
            exact app s0 (isNm_iff.mpr ⟨q1, by omega, q3⟩) (by simpa using hs3)
          · exact ⟨_, rfl, app tag ht (by simpa using hm)⟩
      · rintro σ H9 ⟨xs, y1, y2, y3, y4, rfl, g9, e1, e2, nm, lx⟩
        exact ⟨_, rfl, q R xs H9 nm (by omega) freeR e2 g9⟩
end
end Th
namespace Th
open PySem PySem.Spec PyProof.Rows L2
abbrev s_l_subset : Stmt := topS 87
theorem sc_l_subset : FnScope ["_law_state", "_law_pool", "_law_limit", "_law_spare", "_law_bits", "_law_x", "_law_some", "_law_k"] ["_law_state", "_law_pool"] (defScope s_l_subset) := ⟨rfl, rfl, rfl, by decide +kernel, rfl, by decide +kernel, by decide +kernel⟩
/-- some of the names of a list, at least one, in order, in a new tuple -/
def spSubset (K : PySem.W.Frag) : Sp := fun vs H Q _ => ∃ (D : DS) (q : Addr) (xs : List Str), vs = [.ref D.p, .ref q] ∧ Drw D H ∧ SqL K (hid D.p H) q (xs.map V.str) ∧ 0 < xs.length ∧ xs.length ≤ 60 ∧ (∀ x ∈ xs, isNm x = true) ∧
  ∀ (r : Addr) (ys : List Str) H', ys ≠ [] → (∀ y ∈ ys, y ∈ xs) → (xs.Nodup → ys.Nodup) → ys.length ≤ xs.length → sortedS ys = true → H r = none → H' r = some (.tup (ys.map V.str)) → Go D H H' → Q (.ref r) H'
section
variable {P : Program} {w : World} {K : PySem.W.Frag} {mg : Str → Option Value} {base : Heap} {CB : Addr}
theorem has_l_subset (Z : Zs mg) (A : At K mg "_law_subset" s_l_subset ["_law_state", "_law_pool"]) (h_l_draw : Has P w K mg base "_law_draw" s_l_draw 1 ["_law_state", "_law_many"] (spDraw)) (h_l_pick : Has P w K mg base "_law_pick" s_l_pick 2 ["_law_state", "_law_pool"] (spPick K)) : Has P w K mg base "_law_subset" s_l_subset 3 ["_law_state", "_law_pool"] (spSubset K) := by
  obtain ⟨f, fd, F, mg1, bd⟩ := A
  obtain ⟨f_l_draw, fd_l_draw, G_l_draw, m_l_draw, k_l_draw, b_l_draw, F_l_draw⟩ := h_l_draw
  obtain ⟨f_l_pick, fd_l_pick, G_l_pick, m_l_pick, k_l_pick, b_l_pick, F_l_pick⟩ := h_l_pick
  refine ⟨f, fd, ?_, mg1, F.kp, bd, F⟩
  refine F.ok sc_l_subset (fun vs H Q E h => ?_) (fun cdv A outer s H vs Q E hr h => ?_)
  · obtain ⟨D, p, xs, rfl, _⟩ := h
    rfl
  · obtain ⟨D, p, xs, rfl, d, hS, h0, h1, hnm, q⟩ := h
    refine ⟨_, (pss_cons (ps_asg (pe_tup (pa_cons (pe_op op_add pe_int (pe_call G_l_draw (hr.mono (by decide)) (by rfl) m_l_draw k_l_draw b_l_draw .nil pass0 (pa_cons (pv 0) (pa_cons pe_int pa_nil)))) (pa_cons (pe_call G_l_pick (hr.mono (by decide)) (by rfl) m_l_pick k_l_pick b_l_pick .nil pass0 (pa_cons (pv 0) (pa_cons (pv 1) pa_nil))) pa_nil))) (pg_tup (by rfl) (pgs_cons (pg_name (i := 2) sc_l_subset.nd rfl (Or.inr rfl)) (pgs_cons (pg_name (i := 3) sc_l_subset.nd rfl (Or.inl rfl)) pgs_nil)))) (pss_cons (ps_set (i := 4) sc_l_subset.nd rfl (Or.inr rfl) (pe_lc (own := [("_law_x", 5)]) (g := gName 5) (by rfl) sc_l_subset.nd (pi_list (pv 1)) (blkOk_by (own := [("_law_x", 5)]) (N := ["_law_state", "_law_pool", "_law_limit", "_law_spare", "_law_bits", "_law_x", "_law_some", "_law_k"]) (sc := defScope s_l_subset) (by decide +kernel)) (fun _ _ _ _ _ => pg_name (i := 5) sc_l_subset.nd rfl (Or.inl rfl)) (fun _ _ _ _ _ => pts_nil) (fun _ _ _ _ _ => (pe_call G_l_draw (hr.mono (by decide)) (by rfl) m_l_draw k_l_draw b_l_draw .nil pass0 (pa_cons (pv 0) (pa_cons pe_int pa_nil)))))) (pss_cons (ps_setLc (i := 6) (own := [("_law_k", 7)]) (g := gName 7) (by rfl) sc_l_subset.nd rfl rfl (sw_true rfl rfl rfl (by decide +kernel)) (pi_range1 (by rfl) Z.range_ (pa_cons (pe_callB call_len_seq (by rfl) Z.len_ (by decide +kernel) (pa_cons (pv 1) pa_nil)) pa_nil)) (blkOk_by (own := [("_law_k", 7)]) (N := ["_law_state", "_law_pool", "_law_limit", "_law_spare", "_law_bits", "_law_x", "_law_some", "_law_k"]) (sc := defScope s_l_subset) (by decide +kernel)) (fun _ _ _ _ _ => pg_name (i := 7) sc_l_subset.nd rfl (Or.inl rfl)) (fun _ _ _ _ _ => (pts_one (pt_cmpR op_lt (pe_ix (show IxR _ (rIxL K) from ix_list) (pv 4) (pv 7) (fun _ _ => rfl)) (pv 2) (nomark _)))) (fun _ _ _ _ _ => (pe_ix (show IxR _ (rIxL K) from ix_list) (pv 1) (pv 7) (fun _ _ => rfl)))) (pss_one (ps_ret (pe_callTy call_tuple_of (by rfl) Z.tuple_ (by decide +kernel) (pa_cons (pe_callB cr_sortedS (by rfl) Z.sorted_ (by decide +kernel) (pa_cons (pe_ifExp (pt_cmpR (op_neD hr.units) (pv 6) (pe_lst pa_nil) (nomark _)) (pv 6) (pe_lst (pa_cons (pv 3) pa_nil))) pa_nil)) pa_nil))))))), ?_⟩
    have lm : (xs.map V.str).length = xs.length := List.length_map _
    refine ⟨_, rfl, D, 3, rfl, d, by decide, by decide, fun lim H1 l0 l1 g1 => ⟨_, _, rfl, rfl, ?_⟩⟩
    refine ⟨_, rfl, _, rfl, D, p, _, rfl, g1.st, g1.sm.seq hS, by omega, by omega, fun si sv H2 hsv g2 => ?_⟩
    obtain ⟨sp, hsp, rfl⟩ := getmap hsv
    have hspm := List.mem_of_getElem? hsp
    refine ⟨(by show 2 ≤ sizeLine; decide), fun t nt => ⟨t, _, rfl, .inl (.inl upd_same), rfl, _, _, rfl, _, _, rfl, rfl, ?_⟩⟩
    have g3 := (g1.trans g2).new (o := .tup [.int (1 + lim), .str sp]) nt
    generalize upd H2 t (.tup [.int (1 + lim), .str sp]) = H3 at g3 ⊢
    -- bits
    refine ⟨_, rfl, p, rfl, ⟨_, hid_same.seq (g3.sm.seq hS)⟩, fun B nB => ?_⟩
    have nBp := g3.st.ne_new nB
    refine lc_list (K := K) (a := p) (xs := xs.map V.str) (fun i H4 => Go D H H4 ∧ ∃ bs : List Int, bs.length = i ∧ H4 B = some (.lst (bs.map V.int))) ⟨g3.new nB, [], rfl, upd_same⟩ (fun i H4 _ z => hid_same.seq (z.1.sm.seq hS)) ?_ ?_
    · rintro i y H4 hi ⟨g4, bs, lb, eb⟩
      have hil := lt_of_get hi
      refine ⟨rfl, _, rfl, D, 4, rfl, g4.st, by decide, by decide, fun b H5 b0 b1 g5 => ?_⟩
      refine ⟨_, g5.old nBp eb, slineL (by rw [List.length_map]; omega), (g4.trans g5).mut d (g3.free d nB), bs ++ [b], by rw [List.length_append, lb]; rfl, ?_⟩
      rw [upd_same, List.map_append]
      rfl
    rintro H4 ⟨g4, bs, lb, eb⟩
    -- some
    refine ⟨_, rfl, p, _, rfl, .inl (hid_same.seq (g4.sm.seq hS)), _, rfl, by omega, by omega, fun S nS => ?_⟩
    have nSp := g4.st.ne_new nS
    have nSB : B ≠ S := ne_of_none eb nS
    have en : (((xs.map V.str).length : Nat) : Int).toNat = xs.length := by omega
    rw [en]
    refine lc_range (lo := 0) (n := xs.length) (fun i H5 => Go D H H5 ∧ H5 B = some (.lst (bs.map V.int)) ∧ ∃ zs : List Str, zs.Sublist (xs.take i) ∧ H5 S = some (.lst (zs.map V.str)))
      ⟨g4.new nS, by rw [upd_ne nSB]; exact eb, [], List.Sublist.refl _, upd_same⟩ ?_ ?_
    · rintro i H5 hi ⟨g5, eb5, zs, sz, ez⟩
      obtain ⟨b, hb⟩ : ∃ b, bs[i]? = some b := ⟨_, List.getElem?_eq_getElem (by omega)⟩
      obtain ⟨x, hx⟩ : ∃ x, xs[i]? = some x := ⟨_, List.getElem?_eq_getElem hi⟩
      have i0 : ((0 : Int) + (i : Int)).toNat = i := by omega
      have et : xs.take (i + 1) = xs.take i ++ [x] := by rw [List.take_add_one, hx]; rfl
      refine ⟨rfl, _, rfl, _, rfl, B, _, _, _, rfl, rfl, .inl (.inl eb5), atI_of (by omega) (by rw [i0, List.getElem?_map, hb]; rfl), _, rfl, _, _, rfl, rfl, _, rfl, ?_⟩
      refine ite2 (fun hk => ?_) (fun hk => ?_)
      · refine ⟨_, rfl, _, rfl, p, _, _, _, rfl, rfl, hid_same.seq (g5.sm.seq hS), atI_of (by omega) (by rw [i0, List.getElem?_map, hx]; rfl), _, ez, slineL (by have := sz.length_le; rw [List.length_take] at this; rw [List.length_map]; omega), ?_⟩
        refine ⟨g5.mut d (g4.free d nS), by rw [upd_ne nSB]; exact eb5, zs ++ [x], by rw [et]; exact sz.append (List.Sublist.refl _), ?_⟩
        rw [upd_same, List.map_append]
        rfl
      · exact ⟨g5, eb5, zs, by rw [et]; exact sz.trans (List.sublist_append_left _ _), ez⟩
    rintro H5 ⟨g5, eb5, zs, sz, ez⟩
    rw [List.take_length] at sz
    have lz := sz.length_le
    have nz : ∀ x ∈ zs, isNm x = true := fun x hx => hnm x (sz.subset hx)
    refine ⟨_, rfl, Nat.zero_le _, fun u nu => ?_⟩
    have g6 := g5.new (o := .lst []) nu
    have ez6 : (upd H5 u (.lst [])) S = some (.lst (zs.map V.str)) := by rw [upd_ne (ne_of_none ez nu)]; exact ez
    have eu : (upd H5 u (.lst [])) u = some (.lst []) := upd_same
    generalize upd H5 u (.lst []) = H6 at g6 ez6 eu ⊢
    refine ⟨.list (zs.map .str), .list [], .lst (.inl (.inl ez6)) (DaAll.dp (K := K) _ _ (DaAll.strs zs)), .lst (.inl (.inl eu)) .nil, (lv_lotL (n := 0) nz (by omega)).shaped (by decide), (lv_of 1 _ (by decide +kernel) : Lv 1 (.list [])).shaped (by decide), _, rfl, ?_⟩
    have e0 : PyData.eqv (.list (zs.map .str)) (.list []) = zs.isEmpty := by
      cases zs <;> simp [PyData.eqv, PyData.eqvAll]
    rw [e0]
    refine ite2 (fun hk => ?_) (fun hk => ?_)
    · refine ⟨_, rfl, S, zs, rfl, .inl (.inl ez6), by omega, fun ys r2 pm so nr2 => ?_⟩
      refine ⟨r2, _, rfl, .inl ⟨.inl (.inl upd_same), fun r nr => ?_⟩⟩
      have g7 := (g6.new (o := .lst (ys.map V.str)) nr2).new (o := .tup (ys.map V.str)) nr
      refine q r ys _ (fun e => ?_) (fun y hy => sz.subset (pm.mem_iff.mp hy)) (fun nd => pm.nodup_iff.mpr (nd.sublist sz)) (by rw [pm.length_eq]; exact lz) so ((g6.new nr2).free d nr) upd_same g7
      subst e
      have : zs = [] := List.nil_perm.mp pm
      rw [this] at hk
      cases hk
    · refine ⟨_, rfl, (by show 1 ≤ sizeLine; decide), fun w1 nw1 => ?_⟩
      refine ⟨w1, [sp], rfl, .inl (.inl upd_same), by show 1 < 64; decide, fun ys r2 pm so nr2 => ?_⟩
      have eys : ys = [sp] := List.perm_singleton.mp pm
      subst eys
      refine ⟨r2, _, rfl, .inl ⟨.inl (.inl upd_same), fun r nr => ?_⟩⟩
      have g7 := ((g6.new (o := .lst [.str sp]) nw1).new (o := .lst ([sp].map V.str)) nr2).new (o := .tup ([sp].map V.str)) nr
      refine q r [sp] _ (List.cons_ne_nil _ _) (fun y hy => by rw [List.mem_singleton.mp hy]; exact hspm) (fun _ => List.pairwise_singleton _ _) (by show 1 ≤ xs.length; omega) so (((g6.new nw1).new nr2).free d nr) upd_same g7
end
end Th
namespace Th
open PySem PySem.Spec PyProof.Rows L2
abbrev s_l_lots : Stmt := topS 92
theorem sc_l_lots : FnScope ["_law_state", "_law_pool", "_law_lineup", "_law_way", "_law_i", "_law_j"] ["_law_state", "_law_pool"] (defScope s_l_lots) := ⟨rfl, rfl, rfl, by decide +kernel, rfl, by decide +kernel, by decide +kernel⟩
/-- a lot of some names -/
def GoodL (xs ps : List Str) : Prop := ps ≠ [] ∧ ps.Nodup ∧ (∀ y ∈ ps, y ∈ xs) ∧ ps.length ≤ xs.length ∧ sortedS ps = true
theorem good_of {xs zs ms ps : List Str} (nx : Nms xs) (pz : zs.Perm xs) (sb : ms.Sublist zs) (ne : ms ≠ []) (pm : ps.Perm ms) (so : sortedS ps = true) : GoodL xs ps :=
  ⟨fun z => ne (by rw [z] at pm; exact pm.symm.eq_nil), pm.nodup_iff.mpr (sb.nodup (pz.nodup_iff.mpr nx.1)), fun y hy => pz.mem_iff.mp (sb.subset (pm.mem_iff.mp hy)), by rw [pm.length_eq, ← pz.length_eq]; exact sb.length_le, so⟩
theorem cut_fr (xs : List V) (k : Nat) : cutV xs (some (k : Int)) none = xs.drop k := by
  unfold cutV
  rw [HT.sIx_none, show HT.sIx xs.length 0 (some (k : Int)) = min k xs.length from HT.sIx_nat _ 0 k, List.take_of_length_le (by rw [List.length_drop]; omega)]
  by_cases h : k ≤ xs.length
  · rw [Nat.min_eq_left h]
  · rw [Nat.min_eq_right (by omega), List.drop_length, List.drop_eq_nil_of_le (by omega)]
def spLots (K : PySem.W.Frag) : Sp := fun vs H Q _ => ∃ (D : DS) (q : Addr) (xs : List Str), vs = [.ref D.p, .ref q] ∧ Drw D H ∧ SqL K (hid D.p H) q (xs.map V.str) ∧ 2 ≤ xs.length ∧ xs.length ≤ 12 ∧ Nms xs ∧
  ∀ (T a b : Addr) (ps qs : List Str) H', GoodL xs ps → GoodL xs qs → H' T = some (.tup [.ref a, .ref b]) → H' a = some (.tup (ps.map V.str)) → H' b = some (.tup (qs.map V.str)) → Go D H H' → Q (.ref T) H'
section
variable {P : Program} {w : World} {K : PySem.W.Frag} {mg : Str → Option Value} {base : Heap} {CB : Addr}
theorem has_l_lots (Z : Zs mg) (A : At K mg "_law_lots" s_l_lots ["_law_state", "_law_pool"]) (h_l_shuffle : Has P w K mg base "_law_shuffle" s_l_shuffle 2 ["_law_state", "_law_pool"] (spShuffle K)) (h_l_draw : Has P w K mg base "_law_draw" s_l_draw 1 ["_law_state", "_law_many"] (spDraw)) (h_l_subset : Has P w K mg base "_law_subset" s_l_subset 3 ["_law_state", "_law_pool"] (spSubset K)) : Has P w K mg base "_law_lots" s_l_lots 4 ["_law_state", "_law_pool"] (spLots K) := by
  obtain ⟨f, fd, F, mg1, bd⟩ := A
  obtain ⟨f_l_shuffle, fd_l_shuffle, G_l_shuffle, m_l_shuffle, k_l_shuffle, b_l_shuffle, F_l_shuffle⟩ := h_l_shuffle
  obtain ⟨f_l_draw, fd_l_draw, G_l_draw, m_l_draw, k_l_draw, b_l_draw, F_l_draw⟩ := h_l_draw
  obtain ⟨f_l_subset, fd_l_subset, G_l_subset, m_l_subset, k_l_subset, b_l_subset, F_l_subset⟩ := h_l_subset
  refine ⟨f, fd, ?_, mg1, F.kp, bd, F⟩
  refine F.ok sc_l_lots (fun vs H Q E h => ?_) (fun cdv A outer s H vs Q E hr h => ?_)
  · obtain ⟨D, p, xs, rfl, _⟩ := h
    rfl
  · obtain ⟨D, p, xs, rfl, d, hS, h0, h1, nx, q⟩ := h
    refine ⟨_, (pss_cons (ps_par (i := 2) (j := 3) (by rfl) sc_l_lots.nd rfl rfl (by decide) rfl rfl (pa_cons (pe_call G_l_shuffle (hr.mono (by decide)) (by rfl) m_l_shuffle k_l_shuffle b_l_shuffle .nil pass0 (pa_cons (pv 0) (pa_cons (pv 1) pa_nil))) (pa_cons (pe_call G_l_draw (hr.mono (by decide)) (by rfl) m_l_draw k_l_draw b_l_draw .nil pass0 (pa_cons (pv 0) (pa_cons pe_int pa_nil))) pa_nil)) (by rfl)) (pss_cons (ps_set (i := 4) sc_l_lots.nd rfl (Or.inl rfl) (pe_op op_add pe_int (pe_call G_l_draw (hr.mono (by decide)) (by rfl) m_l_draw k_l_draw b_l_draw .nil pass0 (pa_cons (pv 0) (pa_cons (pe_op op_sub (pe_callB call_len_seq (by rfl) Z.len_ (by decide +kernel) (pa_cons (pv 1) pa_nil)) pe_int) pa_nil))))) (pss_cons (ps_set (i := 5) sc_l_lots.nd rfl (Or.inl rfl) (pe_op op_add (pv 4) (pe_call G_l_draw (hr.mono (by decide)) (by rfl) m_l_draw k_l_draw b_l_draw .nil pass0 (pa_cons (pv 0) (pa_cons (pe_op op_sub (pe_callB call_len_seq (by rfl) Z.len_ (by decide +kernel) (pa_cons (pv 1) pa_nil)) (pv 4)) pa_nil))))) (pss_cons (ps_if (pt_cmpR op_lt (pv 3) pe_int (nomark _)) (pss_one (ps_ret (pe_tup (pa_cons (pe_callTy call_tuple_of (by rfl) Z.tuple_ (by decide +kernel) (pa_cons (pe_callB cr_sortedS (by rfl) Z.sorted_ (by decide +kernel) (pa_cons (pe_slice sl_list (pv 2) po_none (po_some (pv 5))) pa_nil)) pa_nil)) (pa_cons (pe_callTy call_tuple_of (by rfl) Z.tuple_ (by decide +kernel) (pa_cons (pe_callB cr_sortedS (by rfl) Z.sorted_ (by decide +kernel) (pa_cons (pe_slice sl_list (pv 2) (po_some (pe_op op_sub (pv 4) pe_int)) po_none) pa_nil)) pa_nil)) pa_nil))))) pss_nil) (pss_cons (ps_if (pt_cmpR op_eq (pv 3) pe_int (nomark _)) (pss_one (ps_ret (pe_tup (pa_cons (pe_callTy call_tuple_of (by rfl) Z.tuple_ (by decide +kernel) (pa_cons (pe_callB cr_sortedS (by rfl) Z.sorted_ (by decide +kernel) (pa_cons (pe_slice sl_list (pv 2) po_none (po_some (pv 4))) pa_nil)) pa_nil)) (pa_cons (pe_callTy call_tuple_of (by rfl) Z.tuple_ (by decide +kernel) (pa_cons (pe_callB cr_sortedS (by rfl) Z.sorted_ (by decide +kernel) (pa_cons (pe_slice sl_list (pv 2) (po_some (pv 5)) po_none) pa_nil)) pa_nil)) pa_nil))))) pss_nil) (pss_one (ps_ret (pe_tup (pa_cons (pe_call G_l_subset (hr.mono (by decide)) (by rfl) m_l_subset k_l_subset b_l_subset .nil pass0 (pa_cons (pv 0) (pa_cons (pv 1) pa_nil))) (pa_cons (pe_call G_l_subset (hr.mono (by decide)) (by rfl) m_l_subset k_l_subset b_l_subset .nil pass0 (pa_cons (pv 0) (pa_cons (pv 1) pa_nil))) pa_nil)))))))))), ?_⟩
    have lm : (xs.map V.str).length = xs.length := List.length_map _
    refine ⟨_, rfl, _, rfl, D, p, _, rfl, d, hS, by omega, fun r ys H1 pm nr er g1 => ?_⟩
    obtain ⟨zs, rfl, pz⟩ := perm_strs pm
    have lz : zs.length = xs.length := pz.length_eq
    have rp : r ≠ D.p := d.ne_new nr
    refine ⟨_, rfl, D, 4, rfl, g1.st, by decide, by decide, fun way H2 w0 w1 g2 => ⟨_, _, rfl, ?_⟩⟩
    have g12 := g1.trans g2
    have er2 := g2.old rp er
    refine ⟨_, rfl, _, rfl, p, _, rfl, .inl (hid_same.seq (g12.sm.seq hS)), _, _, rfl, rfl, D, _, rfl, g12.st, by omega, by omega, fun i0 H3 i0a i0b g3 => ⟨_, _, rfl, rfl, ?_⟩⟩
    rw [lm] at i0b
    have g13 := g12.trans g3
    have er3 := g3.old rp er2
    refine ⟨_, rfl, _, rfl, _, rfl, p, _, rfl, .inl (hid_same.seq (g13.sm.seq hS)), _, rfl, _, _, rfl, rfl, D, _, rfl, g13.st, by omega, by omega, fun j0 H4 j0a j0b g4 => ⟨_, _, rfl, rfl, ?_⟩⟩
    rw [lm] at j0b
    have g14 := g13.trans g4
    have er4 := g4.old rp er3
    obtain ⟨i, rfl⟩ : ∃ i : Nat, i0 = (i : Int) := ⟨i0.toNat, by omega⟩
    obtain ⟨j, ej⟩ : ∃ j : Nat, 1 + (i : Int) + j0 = (j : Int) := ⟨(1 + (i : Int) + j0).toNat, by omega⟩
    have hi : i + 1 < xs.length := by omega
    have hj : i + 1 ≤ j := by omega
    have hj2 : j < xs.length := by omega
    have ei : 1 + (i : Int) = ((i + 1 : Nat) : Int) := by omega
    refine ⟨_, rfl, _, _, rfl, rfl, _, rfl, ite2 (fun hw => ?_) (fun hw => ?_)⟩
    · skip
      refine ⟨_, rfl, _, rfl, (j : Int), (by show V.int (1 + (i : Int) + j0) = _; rw [ej]), r, _, rfl, .inl (.inl er4), fun R1 n1 => ?_⟩
      rw [cut_to _ (Int.natCast_nonneg j), Int.toNat_natCast, ← List.map_take]
      have l1 : (zs.take j).length ≤ 12 ∧ zs.take j ≠ [] := ⟨by rw [List.length_take]; omega, fun z => by have := congrArg List.length z; rw [List.length_take, List.length_nil] at this; omega⟩
      have sb1 : (zs.take j).Sublist zs := List.take_sublist _ _
      generalize zs.take j = ms1 at l1 sb1 ⊢
      have g1a := g14.new (o := .lst (ms1.map V.str)) n1
      have er1a := kp (u := .lst (ms1.map V.str)) er4 n1
      have es1 : (upd H4 R1 (.lst (ms1.map V.str))) R1 = some (.lst (ms1.map V.str)) := upd_same
      generalize upd H4 R1 (.lst (ms1.map V.str)) = H1a at g1a er1a es1 ⊢
      refine ⟨R1, ms1, rfl, .inl (.inl es1), by have := l1.1; omega, fun ps1 q1 pm1 so1 nq1 => ⟨q1, _, rfl, .inl ⟨.inl (.inl upd_same), fun a1 na1 => ?_⟩⟩⟩
      have g1b := g1a.new (o := .lst (ps1.map V.str)) nq1
      have er1b := kp (u := .lst (ps1.map V.str)) er1a nq1
      generalize upd H1a q1 (.lst (ps1.map V.str)) = H1b at g1b er1b na1 ⊢
      have g1c := g1b.new (o := .tup (ps1.map V.str)) na1
      have er1c := kp (u := .tup (ps1.map V.str)) er1b na1
      have ea1 : (upd H1b a1 (.tup (ps1.map V.str))) a1 = some (.tup (ps1.map V.str)) := upd_same
      generalize upd H1b a1 (.tup (ps1.map V.str)) = H1c at g1c er1c ea1 ⊢
      refine ⟨_, rfl, _, rfl, _, _, rfl, rfl, (i : Int), (by show V.int (1 + (i : Int) - 1) = _; rw [show 1 + (i : Int) - 1 = (i : Int) by omega]), r, _, rfl, .inl (.inl er1c), fun R2 n2 => ?_⟩
      rw [cut_fr, ← List.map_drop]
      have l2 : (zs.drop i).length ≤ 12 ∧ zs.drop i ≠ [] := ⟨by rw [List.length_drop]; omega, fun z => by have := congrArg List.length z; simp at this; omega⟩
      have sb2 : (zs.drop i).Sublist zs := List.drop_sublist _ _
      generalize zs.drop i = ms2 at l2 sb2 ⊢
      have g2a := g1c.new (o := .lst (ms2.map V.str)) n2
      have er2a := kp (u := .lst (ms2.map V.str)) er1c n2
      have ea1a := kp (u := .lst (ms2.map V.str)) ea1 n2
      have es2 : (upd H1c R2 (.lst (ms2.map V.str))) R2 = some (.lst (ms2.map V.str)) := upd_same
      generalize upd H1c R2 (.lst (ms2.map V.str)) = H2a at g2a er2a es2 ea1a ⊢
      refine ⟨R2, ms2, rfl, .inl (.inl es2), by have := l2.1; omega, fun ps2 q2 pm2 so2 nq2 => ⟨q2, _, rfl, .inl ⟨.inl (.inl upd_same), fun a2 na2 => ?_⟩⟩⟩
      have g2b := g2a.new (o := .lst (ps2.map V.str)) nq2
      have er2b := kp (u := .lst (ps2.map V.str)) er2a nq2
      have ea1b := kp (u := .lst (ps2.map V.str)) ea1a nq2
      generalize upd H2a q2 (.lst (ps2.map V.str)) = H2b at g2b er2b na2 ea1b ⊢
      have g2c := g2b.new (o := .tup (ps2.map V.str)) na2
      have er2c := kp (u := .tup (ps2.map V.str)) er2b na2
      have ea1c := kp (u := .tup (ps2.map V.str)) ea1b na2
      have ea2 : (upd H2b a2 (.tup (ps2.map V.str))) a2 = some (.tup (ps2.map V.str)) := upd_same
      generalize upd H2b a2 (.tup (ps2.map V.str)) = H2c at g2c er2c ea2 ea1c ⊢
      refine ⟨by show 2 ≤ sizeLine; decide, fun T nT => ?_⟩
      exact q T a1 a2 ps1 ps2 _ (good_of nx pz sb1 l1.2 pm1 so1) (good_of nx pz sb2 l2.2 pm2 so2) upd_same (kp ea1c nT) (kp ea2 nT) (g2c.new nT)
    refine ⟨_, rfl, rfl, _, rfl, ite2 (fun hw2 => ?_) (fun hw2 => ?_)⟩
    · skip
      refine ⟨_, rfl, _, rfl, ((i + 1 : Nat) : Int), (by show V.int (1 + (i : Int)) = _; rw [ei]), r, _, rfl, .inl (.inl er4), fun R1 n1 => ?_⟩
      rw [cut_to _ (Int.natCast_nonneg (i + 1)), Int.toNat_natCast, ← List.map_take]
      have l1 : (zs.take (i + 1)).length ≤ 12 ∧ zs.take (i + 1) ≠ [] := ⟨by rw [List.length_take]; omega, fun z => by have := congrArg List.length z; rw [List.length_take, List.length_nil] at this; omega⟩
      have sb1 : (zs.take (i + 1)).Sublist zs := List.take_sublist _ _
      generalize zs.take (i + 1) = ms1 at l1 sb1 ⊢
      have g1a := g14.new (o := .lst (ms1.map V.str)) n1
      have er1a := kp (u := .lst (ms1.map V.str)) er4 n1
      have es1 : (upd H4 R1 (.lst (ms1.map V.str))) R1 = some (.lst (ms1.map V.str)) := upd_same
      generalize upd H4 R1 (.lst (ms1.map V.str)) = H1a at g1a er1a es1 ⊢
      refine ⟨R1, ms1, rfl, .inl (.inl es1), by have := l1.1; omega, fun ps1 q1 pm1 so1 nq1 => ⟨q1, _, rfl, .inl ⟨.inl (.inl upd_same), fun a1 na1 => ?_⟩⟩⟩
      have g1b := g1a.new (o := .lst (ps1.map V.str)) nq1
      have er1b := kp (u := .lst (ps1.map V.str)) er1a nq1
      generalize upd H1a q1 (.lst (ps1.map V.str)) = H1b at g1b er1b na1 ⊢
      have g1c := g1b.new (o := .tup (ps1.map V.str)) na1
      have er1c := kp (u := .tup (ps1.map V.str)) er1b na1
      have ea1 : (upd H1b a1 (.tup (ps1.map V.str))) a1 = some (.tup (ps1.map V.str)) := upd_same
      generalize upd H1b a1 (.tup (ps1.map V.str)) = H1c at g1c er1c ea1 ⊢
      refine ⟨_, rfl, _, rfl, (j : Int), (by show V.int (1 + (i : Int) + j0) = _; rw [ej]), r, _, rfl, .inl (.inl er1c), fun R2 n2 => ?_⟩
      rw [cut_fr, ← List.map_drop]
      have l2 : (zs.drop j).length ≤ 12 ∧ zs.drop j ≠ [] := ⟨by rw [List.length_drop]; omega, fun z => by have := congrArg List.length z; simp at this; omega⟩
      have sb2 : (zs.drop j).Sublist zs := List.drop_sublist _ _
      generalize zs.drop j = ms2 at l2 sb2 ⊢
      have g2a := g1c.new (o := .lst (ms2.map V.str)) n2
      have er2a := kp (u := .lst (ms2.map V.str)) er1c n2
      have ea1a := kp (u := .lst (ms2.map V.str)) ea1 n2
      have es2 : (upd H1c R2 (.lst (ms2.map V.str))) R2 = some (.lst (ms2.map V.str)) := upd_same
      generalize upd H1c R2 (.lst (ms2.map V.str)) = H2a at g2a er2a es2 ea1a ⊢
      refine ⟨R2, ms2, rfl, .inl (.inl es2), by have := l2.1; omega, fun ps2 q2 pm2 so2 nq2 => ⟨q2, _, rfl, .inl ⟨.inl (.inl upd_same), fun a2 na2 => ?_⟩⟩⟩
      have g2b := g2a.new (o := .lst (ps2.map V.str)) nq2
      have er2b := kp (u := .lst (ps2.map V.str)) er2a nq2
      have ea1b := kp (u := .lst (ps2.map V.str)) ea1a nq2
      generalize upd H2a q2 (.lst (ps2.map V.str)) = H2b at g2b er2b na2 ea1b ⊢
      have g2c := g2b.new (o := .tup (ps2.map V.str)) na2
      have er2c := kp (u := .tup (ps2.map V.str)) er2b na2
      have ea1c := kp (u := .tup (ps2.map V.str)) ea1b na2
      have ea2 : (upd H2b a2 (.tup (ps2.map V.str))) a2 = some (.tup (ps2.map V.str)) := upd_same
      generalize upd H2b a2 (.tup (ps2.map V.str)) = H2c at g2c er2c ea2 ea1c ⊢
      refine ⟨by show 2 ≤ sizeLine; decide, fun T nT => ?_⟩
      exact q T a1 a2 ps1 ps2 _ (good_of nx pz sb1 l1.2 pm1 so1) (good_of nx pz sb2 l2.2 pm2 so2) upd_same (kp ea1c nT) (kp ea2 nT) (g2c.new nT)
    · refine ⟨_, rfl, _, rfl, D, p, xs, rfl, g14.st, g14.sm.seq hS, by omega, by omega, nx.2, fun r1 ys1 H5 ne1 in1 nd1 le1 so1 n1 e1 g5 => ?_⟩
      have g15 := g14.trans g5
      refine ⟨_, rfl, _, rfl, D, p, xs, rfl, g15.st, g15.sm.seq hS, by omega, by omega, nx.2, fun r2 ys2 H6 ne2 in2 nd2 le2 so2 n2 e2 g6 => ?_⟩
      have e1' := g6.old (g14.st.ne_new n1) e1
      refine ⟨by show 2 ≤ sizeLine; decide, fun T nT => ?_⟩
      exact q T r1 r2 ys1 ys2 _ ⟨ne1, nd1 nx.1, in1, le1, so1⟩ ⟨ne2, nd2 nx.1, in2, le2, so2⟩ upd_same (kp e1' nT) (kp e2 nT) ((g15.trans g6).new nT)
end
end Th
namespace Th
open PySem PySem.Spec PyProof.Rows L2
abbrev s_p_is_listed : Stmt := topS 31
theorem sc_p_is_listed : FnScope ["value"] ["value"] (defScope s_p_is_listed) := ⟨rfl, rfl, rfl, by decide +kernel, rfl, by decide +kernel, by decide +kernel⟩
/-- whether a datum is a list or a tuple -/
def spSeqQ (K : PySem.W.Frag) : Sp := fun vs H Q _ => ∃ (v : V) (d : PyData), vs = [v] ∧ Da K H v d ∧ ∀ H', Same H H' → Q (.bl (decide (tyD d = "list" ∨ tyD d = "tuple"))) H'
section
variable {P : Program} {w : World} {K : PySem.W.Frag} {mg : Str → Option Value} {base : Heap} {CB : Addr}
theorem has_p_is_listed (Z : Zs mg) (A : At K mg "is_listed" s_p_is_listed ["value"]) : Has P w K mg base "is_listed" s_p_is_listed 1 ["value"] (spSeqQ K) := by
  obtain ⟨f, fd, F, mg1, bd⟩ := A
  refine ⟨f, fd, ?_, mg1, F.kp, bd, F⟩
  refine F.ok sc_p_is_listed (fun vs H Q E h => ?_) (fun cdv A outer s H vs Q E hr h => ?_)
  · obtain ⟨v, d, rfl, _⟩ := h
    rfl
  · obtain ⟨v, d, rfl, rv, q⟩ := h
    refine ⟨_, (pss_one (ps_ret (pe_callB (show CallR _ (.builtin "isinstance") (rIsiT K) from call_isiT) (by rfl) Z.isinstance_ (by decide +kernel) (pa_cons (pv 0) (pa_cons (pe_tup (pa_cons (pe_bltn (v := .ty "list") (by rfl) Z.list_ (by decide +kernel) rfl) (pa_cons (pe_bltn (v := .ty "tuple") (by rfl) Z.tuple_ (by decide +kernel) rfl) pa_nil))) pa_nil))))), ?_⟩
    exact ⟨_, rfl, (by show 2 ≤ sizeLine; decide), fun t nt => ⟨v, t, _, _, _, _, rfl, upd_same, .cons (.ty _) (.cons (.ty _) .nil), ty_same (same_new nt) rv.ty, kit_lt d rv.nodict, q _ (same_new nt)⟩⟩
end
end Th
namespace Th
open PySem PySem.Spec PyProof.Rows L2
abbrev s_p_is_name : Stmt := topS 17
theorem sc_p_is_name : FnScope ["value", "sign"] ["value"] (defScope s_p_is_name) := ⟨rfl, rfl, rfl, by decide +kernel, rfl, by decide +kernel, by decide +kernel⟩

section
variable {P : Program} {w : World} {K : PySem.W.Frag} {mg : Str → Option Value} {base : Heap} {CB : Addr}
theorem has_p_is_name (n : Nat) (Z : Zs mg) (gL : ∃ t, mg "_LETTERS" = some (.str abc t)) (gM : ∃ t, mg "_MOST_LETTERS" = some (.int 6 t)) (A : At K mg "is_name" s_p_is_name ["value"]) : Has P w K mg base "is_name" s_p_is_name 1 ["value"] (spJ K n nmD) := by
  obtain ⟨f, fd, F, mg1, bd⟩ := A
  obtain ⟨tL, g_LETTERS⟩ := gL
  obtain ⟨tM, g_MOST_LETTERS⟩ := gM
  refine ⟨f, fd, ?_, mg1, F.kp, bd, F⟩
  refine F.ok sc_p_is_name (fun vs H Q E h => ?_) (fun cdv A outer s H vs Q E hr h => ?_)
  · obtain ⟨v, d, rfl, _⟩ := h
    rfl
  · obtain ⟨v, d, rfl, r, lv, q⟩ := h
    refine ⟨_, (pss_one (ps_ret (pe_and (pe_callB call_isi (by rfl) Z.isinstance_ (by decide +kernel) (pa_cons (pv 0) (pa_cons (pe_bltn (v := .ty "str") (by rfl) Z.str_ (by decide +kernel) rfl) pa_nil))) (pe_and (pe_chain op_le op_le pe_int (pe_callB call_len_str (by rfl) Z.len_ (by decide +kernel) (pa_cons (pv 0) pa_nil)) (pe_glob (v := .int 6) (by rfl) g_MOST_LETTERS ⟨_, rfl⟩)) (pe_one (pe_callB (cr_all rfl) (by rfl) Z.all_ (by decide +kernel) (pa_cons (pe_lc (own := [("sign", 1)]) (g := gName 1) (by rfl) sc_p_is_name.nd (pi_str (pv 0)) (blkOk_by (own := [("sign", 1)]) (N := ["value", "sign"]) (sc := defScope s_p_is_name) (by decide +kernel)) (fun _ _ _ _ _ => pg_name (i := 1) sc_p_is_name.nd rfl (Or.inl rfl)) (fun _ _ _ _ _ => pts_nil) (fun _ _ _ _ _ => (pe_cmpR op_in_sign (pv 1) (pe_glob (v := .str abc) (by rfl) g_LETTERS ⟨_, rfl⟩) (by rfl)))) pa_nil))))))), ?_⟩
    refine ⟨_, rfl, v, _, _, _, _, rfl, .ty "str", r.ty, kit_ty (kit_str d r.nodict), _, rfl, ?_⟩
    cases d with
    | str x =>
      have hv : v = .str x := by
        cases r
        rfl
      subst hv
      have hx : x.length ≤ 100000 := by
        cases n <;> exact lv.1
      refine iteT ?_
      refine ⟨_, rfl, _, rfl, sline hx, _, _, rfl, rfl, _, rfl, ?_⟩
      have fin : ∀ b : Bool, b = isNm x → Q (.bl b) H := fun b e => by
        rw [e]
        exact q H (Same.refl H)
      refine ite2 (fun h1 => ?_) (fun h1 => ⟨_, rfl, iteF (fin _ ?_)⟩)
      · refine ⟨_, _, rfl, rfl, _, rfl, ?_⟩
        refine ite2 (fun h2 => ?_) (fun h2 => fin _ ?_)
        · refine ⟨_, rfl, x, rfl, fun L nL => ?_⟩
          refine lc_it (walk_str (z := x)) (fun i H2 => Same H H2 ∧ H2 L = some (.lst (((cs x).take i).map fun c => V.bl (decide (c ∈ cs abc))))) ⟨same_new nL, upd_same⟩ (fun _ _ _ _ => trivial) ?_ ?_
          · rintro i y H2 H3 hi ⟨s2, e2⟩ ⟨rfl, c, hc, rfl⟩
            have hc' : (cs x)[i]? = some c := by
              unfold cs
              rw [Array.getElem?_toList]
              exact hc
            have hl := lt_of_get hc'
            rw [← cs_len] at hl
            refine ⟨rfl, _, rfl, c, abc, rfl, rfl, _, e2, slineL ?_, ?_⟩
            · rw [List.length_map, List.length_take]
              omega
            · refine ⟨same_mut s2 nL, ?_⟩
              rw [upd_same, take_succ_map hc']
              rfl
          · rintro H2 ⟨s2, e2⟩
            have e3 : (cs x).take x.cps.size = cs x := List.take_of_length_le (by rw [← cs_len]; exact Nat.le_refl _)
            rw [e3] at e2
            refine ⟨L, (cs x).map fun c => decide (c ∈ cs abc), rfl, .inl (.inl (by rw [e2, List.map_map]; rfl)), ?_⟩
            have e4 : ((cs x).map fun c => decide (c ∈ cs abc)).all id = isNm x := by
              unfold isNm
              have a1 : decide (1 ≤ x.length) = true := decide_eq_true (by have := of_decide_eq_true h1; omega)
              have a2 : decide (x.length ≤ 6) = true := decide_eq_true (by have := of_decide_eq_true h2; omega)
              rw [a1, a2, List.all_map]
              rfl
            rw [e4]
            exact q H2 s2
        · have a2 : ¬ x.length ≤ 6 := fun z => h2 (decide_eq_true (by omega))
          unfold isNm
          rw [decide_eq_false a2, Bool.and_false, Bool.false_and]
      · have a1 : ¬ 1 ≤ x.length := fun z => h1 (decide_eq_true (by omega))
        unfold isNm
        rw [decide_eq_false a1, Bool.false_and, Bool.false_and]
    | _ => exact iteF (q H (Same.refl H))
end
end Th
namespace Th
open PySem PySem.Spec PyProof.Rows L2
abbrev s_p_copied : Stmt := topS 2
theorem sc_p_copied : FnScope ["value", "item"] ["value"] (defScope s_p_copied) := ⟨rfl, rfl, rfl, by decide +kernel, rfl, by decide +kernel, by decide +kernel⟩

/-- a copy of data: what is hidden stays out of it -/
def spCopy (K : PySem.W.Frag) (n : Nat) : Sp := fun vs H Q _ => ∃ (v : V) (d : PyData) (S : Addr → Prop), vs = [v] ∧ (∀ b, S b → H b ≠ none) ∧ Da K (hidS S H) v d ∧ LvN n d ∧ ∀ v' H', Same H H' → Da K (hidS S H') v' d → Q v' H'
section
variable {P : Program} {w : World} {K : PySem.W.Frag} {mg : Str → Option Value} {base : Heap}
theorem copied_step (Z : Zs mg) {f : Addr} {fd : FuncData} (F : Fun K "copied" "copied" s_p_copied f fd) (m_p_copied : mg "copied" = some (.ref f)) (b_p_copied : Binds K fd ["value"] []) (k : Nat)
    (G_p_copied : FnOk P w K mg base CX0 k f fd ["value"] (spCopy K k)) : FnOk P w K mg base CX0 (k + 1) f fd ["value"] (spCopy K (k + 1)) := by
  have k_p_copied := F.kp
  refine F.ok sc_p_copied (fun vs H Q E h => ?_) (fun cdv A outer s H vs Q E hr h => ?_)
  · obtain ⟨v, d, S, rfl, _⟩ := h
    rfl
  · obtain ⟨v, d, S, rfl, hS, rv, lv, q⟩ := h
    have nd := rv.nodict
    have rH := rv.to hidS_same
    refine ⟨_, (pss_cons (ps_if (pt_val (pe_callB call_isi (by rfl) Z.isinstance_ (by decide +kernel) (pa_cons (pv 0) (pa_cons (pe_bltn (v := .ty "list") (by rfl) Z.list_ (by decide +kernel) rfl) pa_nil)))) (pss_one (ps_ret (pe_lc (own := [("item", 1)]) (g := gName 1) (by rfl) sc_p_copied.nd (pi_list (pv 0)) (blkOk_by (own := [("item", 1)]) (N := ["value", "item"]) (sc := defScope s_p_copied) (by decide +kernel)) (fun _ _ _ _ _ => pg_name (i := 1) sc_p_copied.nd rfl (Or.inl rfl)) (fun _ _ _ _ _ => pts_nil) (fun _ _ _ _ _ => (pe_call G_p_copied (hr.mono (Nat.le_refl _)) (by rfl) m_p_copied k_p_copied b_p_copied .nil pass0 (pa_cons (pv 1) pa_nil)))))) pss_nil) (pss_cons (ps_if (pt_val (pe_callB call_isi (by rfl) Z.isinstance_ (by decide +kernel) (pa_cons (pv 0) (pa_cons (pe_bltn (v := .ty "tuple") (by rfl) Z.tuple_ (by decide +kernel) rfl) pa_nil)))) (pss_one (ps_ret (pe_callTy call_tuple_of (by rfl) Z.tuple_ (by decide +kernel) (pa_cons (pe_lc (own := [("item", 1)]) (g := gName 1) (by rfl) sc_p_copied.nd (pi_tup (pv 0)) (blkOk_by (own := [("item", 1)]) (N := ["value", "item"]) (sc := defScope s_p_copied) (by decide +kernel)) (fun _ _ _ _ _ => pg_name (i := 1) sc_p_copied.nd rfl (Or.inl rfl)) (fun _ _ _ _ _ => pts_nil) (fun _ _ _ _ _ => (pe_call G_p_copied (hr.mono (Nat.le_refl _)) (by rfl) m_p_copied k_p_copied b_p_copied .nil pass0 (pa_cons (pv 1) pa_nil)))) pa_nil)))) pss_nil) (pss_one (ps_ret (pv 0))))), ?_⟩
    have lv : Lv k d := lv
    -- a comprehension over the items copies each
    have walk : ∀ (L : Addr) (xs : List V) (ds : List PyData), H L = none → DaAll K (hidS S H) xs ds → (∀ x ∈ ds, LvN k x) → xs.length ≤ 60 → ∀ (i : Nat) (y : V) (H2 : Hp), xs[i]? = some y →
        (∃ ys, Same H H2 ∧ H2 L = some (.lst ys) ∧ ys.length = i ∧ DaAll K (hidS (fun b => S b ∨ b = L) H2) ys (ds.take i)) →
        spCopy K k ([y] ++ []) H2 (fun v' H3 => ∃ zs, H3 L = some (.lst zs) ∧ zs.length < sizeLine ∧ ∃ ys, Same H (upd H3 L (.lst (zs ++ [v']))) ∧ upd H3 L (.lst (zs ++ [v'])) L = some (.lst ys) ∧ ys.length = i + 1 ∧ DaAll K (hidS (fun b => S b ∨ b = L) (upd H3 L (.lst (zs ++ [v'])))) ys (ds.take (i + 1))) E0 := by
      rintro L xs ds nL rx lvx lx i y H2 hi ⟨ys, s2, e2, hy, ry⟩
      obtain ⟨e, he, re⟩ := rx.at hi
      refine ⟨y, e, fun b => S b ∨ b = L, rfl, fun b hb => ?_, re.to (hidS_more s2 nL), lvx e (List.mem_of_getElem? he), fun v' H3 s3 rv' => ?_⟩
      · rcases hb with hb | rfl
        · cases e1 : H b with
          | none => exact absurd e1 (hS b hb)
          | some o => rw [s2 b o e1]; exact fun z => nomatch z
        · rw [e2]; exact fun z => nomatch z
      · refine ⟨ys, s3 _ _ e2, slineL (by have := lt_of_get hi; omega), ys ++ [v'], same_mut (s2.trans s3) nL, upd_same, by rw [List.length_append, hy]; rfl, ?_⟩
        rw [hidS_upd, List.take_add_one, he]
        exact (ry.to (hidS_mono s3)).app (.cons rv' .nil)
    by_cases hl : tyD d = "list"
    · cases d with
      | none => exact absurd (show ("NoneType" : String) = "list" from hl) (by decide)
      | bool b => exact absurd (show ("bool" : String) = "list" from hl) (by decide)
      | int b => exact absurd (show ("int" : String) = "list" from hl) (by decide)
      | str b => exact absurd (show ("str" : String) = "list" from hl) (by decide)
      | tuple ds => exact absurd (show ("tuple" : String) = "list" from hl) (by decide)
      | dict kvs => exact absurd rfl nd
      | list ds =>
        obtain ⟨lvl, lvx⟩ := lvn_list lv
        cases rv with
        | @lst p xs _ hp ht rx =>
        have hp' := hidS_same.seq hp
        have lx : xs.length ≤ 60 := by rw [rx.len]; exact lvl
        refine ⟨_, rfl, _, _, _, _, _, rfl, .ty "list", rH.ty, kit_ty (kit_list _ nd), _, rfl, iteT ?_⟩
        refine ⟨_, rfl, p, rfl, ⟨_, hp'⟩, fun L nL => ?_⟩
        have nS : ¬ S L := fun z => hS L z nL
        refine lc_list (K := K) (a := p) (xs := xs) (fun i H2 => ∃ ys, Same H H2 ∧ H2 L = some (.lst ys) ∧ ys.length = i ∧ DaAll K (hidS (fun b => S b ∨ b = L) H2) ys (ds.take i)) ⟨[], same_new nL, upd_same, rfl, .nil⟩ (fun i H2 _ ⟨_, s2, _⟩ => s2.seq hp') ?_ ?_
        · intro i y H2 hi w2
          have step := walk L xs ds nL rx lvx lx i y H2 hi w2
          refine ⟨rfl, _, rfl, ?_⟩
          exact step
        · rintro H2 ⟨ys, s2, e2, hy, ry⟩
          rw [rx.len, List.take_length] at ry
          refine q _ _ s2 (Da.newL (by rw [hidS_out nS]; exact e2) (ry.to hidS_less))
    refine ⟨_, rfl, _, _, _, _, _, rfl, .ty "list", rH.ty, kit_ty (kit_list _ nd), _, rfl, ?_⟩
    rw [decide_eq_false hl]
    refine iteF ?_
    by_cases ht : tyD d = "tuple"
    · cases d with
      | none => exact absurd (show ("NoneType" : String) = "tuple" from ht) (by decide)
      | bool b => exact absurd (show ("bool" : String) = "tuple" from ht) (by decide)
      | int b => exact absurd (show ("int" : String) = "tuple" from ht) (by decide)
      | str b => exact absurd (show ("str" : String) = "tuple" from ht) (by decide)
      | list ds => exact absurd (show ("list" : String) = "tuple" from ht) (by decide)
      | dict kvs => exact absurd rfl nd
      | tuple ds =>
        obtain ⟨lvl, lvx⟩ := lvn_tuple lv
        cases rv with
        | @tup p xs _ hp hty rx =>
        have hp' := same_t hidS_same hp
        have lx : xs.length ≤ 60 := by rw [rx.len]; exact lvl
        refine ⟨_, rfl, _, _, _, _, _, rfl, .ty "tuple", rH.ty, kit_ty (kit_tuple _ nd), _, rfl, iteT ?_⟩
        refine ⟨_, rfl, p, rfl, ⟨_, hp'⟩, fun L nL => ?_⟩
        refine lc_tup (K := K) (a := p) (xs := xs) (fun i H2 => ∃ ys, Same H H2 ∧ H2 L = some (.lst ys) ∧ ys.length = i ∧ DaAll K (hidS (fun b => S b ∨ b = L) H2) ys (ds.take i)) ⟨[], same_new nL, upd_same, rfl, .nil⟩ (fun i H2 _ ⟨_, s2, _⟩ => same_t s2 hp') ?_ ?_
        · intro i y H2 hi w2
          have step := walk L xs ds nL rx lvx lx i y H2 hi w2
          refine ⟨rfl, _, rfl, ?_⟩
          exact step
        · rintro H2 ⟨ys, s2, e2, hy, ry⟩
          rw [rx.len, List.take_length] at ry
          refine ⟨L, ys, rfl, .inl ⟨.inl (.inl e2), fun r nr => ?_⟩⟩
          have s3 := same_new (o := .tup ys) nr
          have nSr : ¬ S r := fun z => by
            have h1 := hS r z
            cases e1 : H r with
            | none => exact h1 e1
            | some o => rw [s2 r o e1] at nr; cases nr
          refine q _ _ (s2.trans s3) (Da.newT (by rw [hidS_out nSr]; exact upd_same) ((ry.to hidS_less).to (hidS_mono s3)))
    refine ⟨_, rfl, _, _, _, _, _, rfl, .ty "tuple", rH.ty, kit_ty (kit_tuple _ nd), _, rfl, ?_⟩
    rw [decide_eq_false ht]
    refine iteF ?_
    exact ⟨_, rfl, q _ _ (Same.refl _) rv⟩
theorem has_p_copied (Z : Zs mg) (A : At K mg "copied" s_p_copied ["value"]) : Has P w K mg base "copied" s_p_copied 6 ["value"] (spCopy K 6) := by
  obtain ⟨f, fd, F, mg1, bd⟩ := A
  refine ⟨f, fd, ?_, mg1, F.kp, bd, F⟩
  have G0 : FnOk P w K mg base CX0 0 f fd ["value"] (spCopy K 0) := ⟨fun vs H Q E h => by obtain ⟨v, d, S, rfl, _⟩ := h; rfl, fun A outer s H args us vs Q E hr he hb hv hs => by obtain ⟨v, d, S, rfl, _, _, z, _⟩ := hs; exact z.elim⟩
  exact copied_step Z F mg1 bd 5 (copied_step Z F mg1 bd 4 (copied_step Z F mg1 bd 3 (copied_step Z F mg1 bd 2 (copied_step Z F mg1 bd 1 (copied_step Z F mg1 bd 0 G0)))))
end
end Th
namespace Th
open PySem PySem.Spec PyProof.Rows L2
abbrev s_c_InvalidFind_init : Stmt := inClass (topS 5) 0
theorem sc_c_InvalidFind_init : FnScope ["self", "at"] ["self", "at"] (defScope s_c_InvalidFind_init) := ⟨rfl, rfl, rfl, by decide +kernel, rfl, by decide +kernel, by decide +kernel⟩

section
variable {P : Program} {w : World} {K : PySem.W.Frag} {mg : Str → Option Value} {base : Heap} {CB : Addr}
theorem has_c_InvalidFind_init {fI : Addr} {fd : FuncData} (Z : Zs mg) (F : Fun K "__init__" "InvalidFind.__init__" s_c_InvalidFind_init fI fd) (h_p_copied : Has P w K mg base "copied" s_p_copied 6 ["value"] (spCopy K 6)) : FnOk P w K mg base CX0 7 fI fd ["self", "at"] (spInit1 K "InvalidFind" "at" 6) := by
  obtain ⟨f_p_copied, fd_p_copied, G_p_copied, m_p_copied, k_p_copied, b_p_copied, F_p_copied⟩ := h_p_copied
  refine F.ok sc_c_InvalidFind_init (fun vs H Q E h => ?_) (fun cdv A outer s H vs Q E hr h => ?_)
  · obtain ⟨a, C, v, d, rfl, _⟩ := h
    rfl
  · obtain ⟨a, C, v, d, rfl, G, n1, n2, ea, rv, lv, q⟩ := h
    refine ⟨_, (pss_cons (ps_put (pv 0) (pe_call G_p_copied (hr.mono (by decide)) (by rfl) m_p_copied k_p_copied b_p_copied .nil pass0 (pa_cons (pv 1) pa_nil))) (pss_one (ps_put (pv 0) pe_str))), ?_⟩
    refine ⟨_, rfl, v, d, fun b => b = a, rfl, fun b hb => (by rw [hb, ea]; exact fun z => nomatch z), rv.kd fun b o e p => ?_, lv, fun v' H1 s1 rv' => ?_⟩
    · rw [hidS_out fun z => ?_]
      · exact e
      · rw [z, ea] at e
        exact p.1 _ (Option.some.inj e).symm
    · have ea1 := s1 _ _ ea
      refine ⟨_, rfl, a, C, rfl, G, n1, .inl ⟨ea1, fun dx nd ne => ?_⟩⟩
      refine ⟨_, rfl, a, C, rfl, G, n2, .inr ⟨dx, [("at", v')], upd_same, ?_, (by show 1 ≤ 900; decide), ?_⟩⟩
      · rw [upd_ne ne]; exact upd_same
      · exact q H1 v' dx s1 (rv'.to hidS_same) nd ne
end
end Th
namespace Th
open PySem PySem.Spec PyProof.Rows L2
abbrev s_c_TooMany_init : Stmt := inClass (topS 10) 0
theorem sc_c_TooMany_init : FnScope ["self", "most"] ["self", "most"] (defScope s_c_TooMany_init) := ⟨rfl, rfl, rfl, by decide +kernel, rfl, by decide +kernel, by decide +kernel⟩

section
variable {P : Program} {w : World} {K : PySem.W.Frag} {mg : Str → Option Value} {base : Heap} {CB : Addr}
theorem has_c_TooMany_init {fI : Addr} {fd : FuncData} (Z : Zs mg) (F : Fun K "__init__" "TooMany.__init__" s_c_TooMany_init fI fd) (h_p_copied : Has P w K mg base "copied" s_p_copied 6 ["value"] (spCopy K 6)) : FnOk P w K mg base CX0 7 fI fd ["self", "most"] (spInit1 K "TooMany" "most" 6) := by
  obtain ⟨f_p_copied, fd_p_copied, G_p_copied, m_p_copied, k_p_copied, b_p_copied, F_p_copied⟩ := h_p_copied
  refine F.ok sc_c_TooMany_init (fun vs H Q E h => ?_) (fun cdv A outer s H vs Q E hr h => ?_)
  · obtain ⟨a, C, v, d, rfl, _⟩ := h
    rfl
  · obtain ⟨a, C, v, d, rfl, G, n1, n2, ea, rv, lv, q⟩ := h
    refine ⟨_, (pss_cons (ps_put (pv 0) (pe_call G_p_copied (hr.mono (by decide)) (by rfl) m_p_copied k_p_copied b_p_copied .nil pass0 (pa_cons (pv 1) pa_nil))) (pss_one (ps_put (pv 0) pe_str))), ?_⟩
    refine ⟨_, rfl, v, d, fun b => b = a, rfl, fun b hb => (by rw [hb, ea]; exact fun z => nomatch z), rv.kd fun b o e p => ?_, lv, fun v' H1 s1 rv' => ?_⟩
    · rw [hidS_out fun z => ?_]
      · exact e
      · rw [z, ea] at e
        exact p.1 _ (Option.some.inj e).symm
    · have ea1 := s1 _ _ ea
      refine ⟨_, rfl, a, C, rfl, G, n1, .inl ⟨ea1, fun dx nd ne => ?_⟩⟩
      refine ⟨_, rfl, a, C, rfl, G, n2, .inr ⟨dx, [("most", v')], upd_same, ?_, (by show 1 ≤ 900; decide), ?_⟩⟩
      · rw [upd_ne ne]; exact upd_same
      · exact q H1 v' dx s1 (rv'.to hidS_same) nd ne
end
end Th
namespace Th
open PySem PySem.Spec PyProof.Rows L2
abbrev s_p_check_finds : Stmt := topS 32
theorem sc_p_check_finds : FnScope ["finds", "at", "name"] ["finds"] (defScope s_p_check_finds) := ⟨rfl, rfl, rfl, by decide +kernel, rfl, by decide +kernel, by decide +kernel⟩
/-- what is wrong with finds -/
def ckDue (d : PyData) : Option (Str × PyData) := match itemsF d with
  | none => dueE "InvalidFind" (.int (-1))
  | some ds => if ds.length = 0 then dueE "InvalidFind" (.int (-1)) else if 12 < ds.length then dueE "TooMany" (.int 12) else
    (firstIx (fun k => !nmD (ds.getD k .none) || decide (strD (ds.getD k .none) ∈ (ds.take k).map strD)) ds.length).bind fun k => dueE "InvalidFind" (.int (k : Int))
theorem ck_none {d : PyData} (h : itemsF d = none) : ckDue d = dueE "InvalidFind" (.int (-1)) := by
  unfold ckDue
  rw [h]
theorem ck_no {d : PyData} {ds : List PyData} (h : itemsF d = some ds) (l : ds.length = 0) : ckDue d = dueE "InvalidFind" (.int (-1)) := by
  unfold ckDue
  rw [h]
  show (if ds.length = 0 then _ else _) = _
  rw [if_pos l]
theorem ck_many {d : PyData} {ds : List PyData} (h : itemsF d = some ds) (l : 12 < ds.length) : ckDue d = dueE "TooMany" (.int 12) := by
  unfold ckDue
  rw [h]
  show (if ds.length = 0 then _ else _) = _
  rw [if_neg (by omega), if_pos l]
theorem ck_mid {d : PyData} {ds : List PyData} (h : itemsF d = some ds) (l0 : ds.length ≠ 0) (l : ds.length ≤ 12) : ckDue d = (firstIx (fun k => !nmD (ds.getD k .none) || decide (strD (ds.getD k .none) ∈ (ds.take k).map strD)) ds.length).bind fun k => dueE "InvalidFind" (.int (k : Int)) := by
  unfold ckDue
  rw [h]
  show (if ds.length = 0 then _ else _) = _
  rw [if_neg l0, if_neg (by omega)]
theorem ck_bad {d : PyData} {ds : List PyData} (h : itemsF d = some ds) (l : ds.length ≤ 12) {k : Nat} {e : PyData} (hk : ds[k]? = some e) (n : nmD e = false ∨ strD e ∈ (ds.take k).map strD) (a : ∀ (j : Nat) (e' : PyData), j < k → ds[j]? = some e' → nmD e' = true ∧ strD e' ∉ (ds.take j).map strD) : ckDue d = dueE "InvalidFind" (.int (k : Int)) := by
  rw [ck_mid h (by have := lt_of_get hk; omega) l, firstIx_some (lt_of_get hk) (by
    rw [getDd hk]
    rcases n with n | n
    · rw [n]; rfl
    · rw [decide_eq_true n, Bool.or_true]) fun j hj => ?_]
  · rfl
  obtain ⟨e', he⟩ : ∃ e', ds[j]? = some e' := ⟨_, List.getElem?_eq_getElem (Nat.lt_trans hj (lt_of_get hk))⟩
  obtain ⟨a1, a2⟩ := a j e' hj he
  rw [getDd he, a1, decide_eq_false a2]
  rfl
theorem ck_good {d : PyData} {ds : List PyData} (h : itemsF d = some ds) (l0 : ds.length ≠ 0) (l : ds.length ≤ 12) (a : ∀ (j : Nat) (e' : PyData), ds[j]? = some e' → nmD e' = true ∧ strD e' ∉ (ds.take j).map strD) : ckDue d = none := by
  rw [ck_mid h l0 l, firstIx_none fun j hj => ?_]
  · rfl
  obtain ⟨e', he⟩ : ∃ e', ds[j]? = some e' := ⟨_, List.getElem?_eq_getElem hj⟩
  obtain ⟨a1, a2⟩ := a j e' he
  rw [getDd he, a1, decide_eq_false a2]
  rfl
theorem nodup_of_take {xs : List Str} (a : ∀ (j : Nat) (y : Str), xs[j]? = some y → y ∉ xs.take j) : xs.Nodup := by
  rw [List.Nodup, List.pairwise_iff_getElem]
  intro i j hi hj hij e
  exact a j _ (List.getElem?_eq_getElem hj) (List.mem_of_getElem? (i := i) (by rw [List.getElem?_take, if_pos hij, List.getElem?_eq_getElem hi, e]))
/-- finds that are well: names -/
theorem ck_ok {d : PyData} (h : ckDue d = none) : ∃ xs : List Str, itemsF d = some (xs.map .str) ∧ Nms xs ∧ xs ≠ [] ∧ xs.length ≤ 12 := by
  cases hi : itemsF d with
  | none => rw [ck_none hi] at h; cases h
  | some ds =>
    by_cases l0 : ds.length = 0
    · rw [ck_no hi l0] at h; cases h
    by_cases l : 12 < ds.length
    · rw [ck_many hi l] at h; cases h
    rw [ck_mid hi l0 (by omega)] at h
    have key : ∀ (j : Nat) (e' : PyData), ds[j]? = some e' → nmD e' = true ∧ strD e' ∉ (ds.take j).map strD := fun j e' he => by
      unfold firstIx at h
      cases hf : (List.range ds.length).find? fun k => !nmD (ds.getD k .none) || decide (strD (ds.getD k .none) ∈ (ds.take k).map strD) with
      | some k => rw [hf] at h; cases h
      | none =>
        have := List.find?_eq_none.mp hf j (List.mem_range.mpr (lt_of_get he))
        rw [getDd he] at this
        simpa using this
    have hn : ds.all nmD = true := List.all_eq_true.mpr fun e he => by
      obtain ⟨j, hj⟩ := List.getElem?_of_mem he
      exact (key j e hj).1
    have es := nms_strs hn
    refine ⟨ds.map strD, by rw [← es], ⟨?_, ?_⟩, fun z => l0 (by rw [List.map_eq_nil_iff.mp z]; rfl), by rw [List.length_map]; omega⟩
    · exact nodup_of_take fun j y hy => by
        obtain ⟨e, he, rfl⟩ := getmap hy
        rw [← List.map_take]
        exact (key j e he).2
    · intro x hx
      obtain ⟨e, he, rfl⟩ := List.mem_map.mp hx
      have := List.all_eq_true.mp hn e he
      rw [nmD_str this] at this
      exact this
/-- any finds are checked -/
def spCkF (K : PySem.W.Frag) (mg : Str → Option Value) : Sp := fun vs H Q E => ∃ (v : V) (d : PyData), vs = [v] ∧ Da K H v d ∧ (∀ ds, itemsF d = some ds → ∀ e ∈ ds, Lv 5 e) ∧
  (ckDue d = none → ∀ H', Same H H' → Q .non H') ∧ (∀ c val, ckDue d = some (c, val) → ∀ cls dd v' H', Same H H' → IsExc K mg c [("code", .str c), (fldOf c, v')] cls dd H' → Da K H' v' val → E cls dd H')
theorem da_strs {K : PySem.W.Frag} {H : Hp} : ∀ {vs : List V} {ds : List PyData}, DaAll K H vs ds → ds.all nmD = true → vs = (ds.map strD).map V.str
  | _, _, .nil, _ => rfl
  | _, _, .cons r t, h => by
    rw [List.all_cons, Bool.and_eq_true] at h
    rw [nmD_str h.1] at r
    cases r
    rw [List.map_cons, List.map_cons, ← da_strs t h.2]
section
variable {P : Program} {w : World} {K : PySem.W.Frag} {mg : Str → Option Value} {base : Heap} {CB : Addr}
theorem has_p_check_finds (Z : Zs mg) (gMF : ∃ t, mg "MOST_FINDS" = some (.int 12 t)) (A : At K mg "check_finds" s_p_check_finds ["finds"]) (h_p_is_listed : Has P w K mg base "is_listed" s_p_is_listed 1 ["value"] (spSeqQ K)) (h_p_is_name : Has P w K mg base "is_name" s_p_is_name 1 ["value"] (spJ K 5 nmD)) (h_c_InvalidFind_init : HasE P w K mg base "InvalidFind" "InvalidFind.__init__" s_c_InvalidFind_init ["self", "at"] ["at", "code"] 7 (spInit1 K "InvalidFind" "at" 6)) (h_c_TooMany_init : HasE P w K mg base "TooMany" "TooMany.__init__" s_c_TooMany_init ["self", "most"] ["most", "code"] 7 (spInit1 K "TooMany" "most" 6)) : HasX P w K mg base "check_finds" s_p_check_finds 9 ["finds"] (spCkF K mg) := by
  obtain ⟨f, fd, F, mg1, bd⟩ := A
  obtain ⟨f_p_is_listed, fd_p_is_listed, G_p_is_listed, m_p_is_listed, k_p_is_listed, b_p_is_listed, F_p_is_listed⟩ := h_p_is_listed
  obtain ⟨f_p_is_name, fd_p_is_name, G_p_is_name, m_p_is_name, k_p_is_name, b_p_is_name, F_p_is_name⟩ := h_p_is_name
  obtain ⟨C_c_InvalidFind_init, fI_c_InvalidFind_init, fd_c_InvalidFind_init, E_c_InvalidFind_init, G_c_InvalidFind_init⟩ := h_c_InvalidFind_init
  obtain ⟨C_c_TooMany_init, fI_c_TooMany_init, fd_c_TooMany_init, E_c_TooMany_init, G_c_TooMany_init⟩ := h_c_TooMany_init
  obtain ⟨tMF, g_MOST_FINDS⟩ := gMF
  refine ⟨f, fd, ?_, mg1, F.kp, bd, F⟩
  refine F.okX sc_p_check_finds (fun vs H Q E h => ?_) (fun cdv A outer s H vs Q E hr h => ?_)
  · obtain ⟨v, d, rfl, _⟩ := h
    rfl
  · obtain ⟨v, d, rfl, rv, hlv0, q1, q2⟩ := h
    refine ⟨_, (pss_cons (ps_if (PW.pt (pw_or (pt_not (pt_val (pe_call G_p_is_listed (hr.mono (by decide)) (by rfl) m_p_is_listed k_p_is_listed b_p_is_listed .nil pass0 (pa_cons (pv 0) pa_nil)))) (pw_or1 (pt_cmpR op_eq (pe_callB call_len_seq (by rfl) Z.len_ (by decide +kernel) (pa_cons (pv 0) pa_nil)) pe_int (nomark _))))) (pss_one (ps_raise rfl (takes_of rfl rfl rfl rfl) (pmk_new E_c_InvalidFind_init.g E_c_InvalidFind_init.ini E_c_InvalidFind_init.tI G_c_InvalidFind_init (hr.mono (by decide)) E_c_InvalidFind_init.b (by rfl) E_c_InvalidFind_init.m (pa_cons (pe_un un_neg pe_int) pa_nil)))) pss_nil) (pss_cons (ps_if (pt_cmpR op_gt (pe_callB call_len_seq (by rfl) Z.len_ (by decide +kernel) (pa_cons (pv 0) pa_nil)) (pe_glob (v := .int 12) (by rfl) g_MOST_FINDS ⟨_, rfl⟩) (nomark _)) (pss_one (ps_raise rfl (takes_of rfl rfl rfl rfl) (pmk_new E_c_TooMany_init.g E_c_TooMany_init.ini E_c_TooMany_init.tI G_c_TooMany_init (hr.mono (by decide)) E_c_TooMany_init.b (by rfl) E_c_TooMany_init.m (pa_cons (pe_glob (v := .int 12) (by rfl) g_MOST_FINDS ⟨_, rfl⟩) pa_nil)))) pss_nil) (pss_one (ps_for (passes_of rfl) rfl (pi_enumLT (by rfl) Z.enumerate_ (pa_cons (pv 0) pa_nil)) (pg_tup (by rfl) (pgs_cons (pg_name (i := 1) sc_p_check_finds.nd rfl (Or.inl rfl)) (pgs_cons (pg_name (i := 2) sc_p_check_finds.nd rfl (Or.inl rfl)) pgs_nil))) (pss_one (ps_if (PW.pt (pw_or (pt_not (pt_val (pe_call G_p_is_name (hr.mono (by decide)) (by rfl) m_p_is_name k_p_is_name b_p_is_name .nil pass0 (pa_cons (pv 2) pa_nil)))) (pw_or1 (pt_cmpR op_in_seq (pv 2) (pe_slice sl_LT (pv 0) po_none (po_some (pv 1))) (by rfl))))) (pss_one (ps_raise rfl (takes_of rfl rfl rfl rfl) (pmk_new E_c_InvalidFind_init.g E_c_InvalidFind_init.ini E_c_InvalidFind_init.tI G_c_InvalidFind_init (hr.mono (by decide)) E_c_InvalidFind_init.b (by rfl) E_c_InvalidFind_init.m (pa_cons (pv 1) pa_nil)))) pss_nil)))))), ?_⟩
    refine ⟨_, rfl, v, d, rfl, rv, fun H1 s1 => ⟨_, rfl, ite2 (fun z => ?_) (fun z => ?_)⟩⟩
    · have hn := noseqF (d := d) (fun w => by rw [decide_eq_true w] at z; cases z)
      refine ⟨_, rfl, ?_⟩
      exact new1 E_c_InvalidFind_init (by decide) (by decide) (.int (-1)) trivial fun cls dd v' H' s e r => q2 _ _ (ck_none hn) cls dd v' H' (s1.trans s) e r
    obtain ⟨b, vs, ds, rfl, hq, al, hi⟩ := seqF (rv.to s1) (Classical.byContradiction fun w => z (by rw [decide_eq_false w]; rfl))
    have hlv := hlv0 ds hi
    refine ⟨_, rfl, b, vs, rfl, hq, rfl, _, rfl, ite2 (fun z => ?_) (fun z0 => ?_)⟩
    · have hlen : ds.length = 0 := by
        have z := V.int.inj (of_decide_eq_true z)
        rw [al.len] at z
        omega
      refine ⟨_, rfl, ?_⟩
      exact new1 E_c_InvalidFind_init (by decide) (by decide) (.int (-1)) trivial fun cls dd v' H' s e r => q2 _ _ (ck_no hi hlen) cls dd v' H' (s1.trans s) e r
    have l0 : ds.length ≠ 0 := fun w => z0 (decide_eq_true (by rw [al.len, w]; rfl))
    refine ⟨_, rfl, b, vs, rfl, hq, _, _, rfl, rfl, _, rfl, ite2 (fun z => ?_) (fun z => ?_)⟩
    · have hlen : 12 < ds.length := by
        have z := of_decide_eq_true z
        rw [al.len] at z
        omega
      exact new1 E_c_TooMany_init (by decide) (by decide) (.int 12) trivial fun cls dd v' H' s e r => q2 _ _ (ck_many hi hlen) cls dd v' H' (s1.trans s) e r
    have hl : ds.length ≤ 12 := by
      have z : ¬ ((vs.length : Nat) : Int) > 12 := fun w => z (decide_eq_true w)
      rw [al.len] at z
      omega
    clear z z0
    have step : ∀ (i : Nat) (x : V) (H2 : Hp), Same H1 H2 → vs[i]? = some x → ∃ e, ds[i]? = some e ∧ Da K H2 x e := fun i x H2 s e => (al.to s).at e
    have hqs : ∀ H', Same H1 H' → (SqL K H' b vs ∨ SqT K H' b vs) := fun H' s => hq.imp (Same.seq s) (same_t s)
    rcases hq with hq | hq
    · refine ⟨_, rfl, b, vs, rfl, .inl ⟨hq, for_it walk_enum (fun i σ H' => ∃ y1 y2 : Option V, σ = [some (.ref b), y1, y2] ∧ Same H1 H' ∧ ∀ j e, j < i → ds[j]? = some e → nmD e = true ∧ strD e ∉ (ds.take j).map strD) ⟨_, _, rfl, Same.refl H1, fun j e hj => absurd hj (Nat.not_lt_zero j)⟩ (fun i σ H' _ z => by obtain ⟨_, _, _, s, _⟩ := z; exact Same.seq s hq) ?_ ?_⟩⟩
      · rintro i x σ H2 H3 _ ⟨y1, y2, rfl, s2, hn⟩ ⟨T, x1, x2, rfl, nT, rfl, e1, e2⟩
        cases e1
        obtain ⟨e, he, re⟩ := step i x2 H2 s2 e2
        have s3 := s2.trans (same_new (o := .tup [.int (i : Nat), x2]) nT)
        refine ⟨T, _, rfl, .inl (.inl upd_same), rfl, _, _, rfl, _, _, rfl, rfl, ?_⟩
        refine ⟨_, rfl, x2, e, rfl, re.to (same_new nT), hlv e (List.mem_of_getElem? he), fun H4 s4 => ?_⟩
        refine ⟨_, rfl, ite2 (fun hm => ?_) (fun hm => ?_)⟩
        · have hm' : nmD e = false := by simpa using hm
          refine ⟨_, rfl, ?_⟩
          exact new1 E_c_InvalidFind_init (by decide) (by decide) (.int (i : Int)) trivial fun cls dd v' H' s e' r => q2 _ _ (ck_bad hi hl he (.inl hm') hn) cls dd v' H' (s1.trans ((s3.trans s4).trans s)) e' r
        have hm' : nmD e = true := by simpa using hm
        have ex := nmD_str hm'
        rw [ex] at re
        cases re
        have hpre : vs.take i = ((ds.take i).map strD).map V.str := da_strs (al.take i) (List.all_eq_true.mpr fun e' he' => by
          obtain ⟨j, hj⟩ := List.getElem?_of_mem he'
          rw [List.getElem?_take] at hj
          by_cases w : j < i
          · rw [if_pos w] at hj
            exact (hn j e' w hj).1
          · rw [if_neg w] at hj
            cases hj)
        refine ⟨_, rfl, _, rfl, _, rfl, (i : Int), rfl, b, vs, rfl, (hqs _ (s3.trans s4)), fun R H5 s5 eR => ?_⟩
        rw [cut_to _ (Int.natCast_nonneg i), Int.toNat_natCast, hpre] at eR
        refine ⟨R, _, rfl, eR, rfl, flatS _, _, rfl, ?_⟩
        rw [inS]
        have s15 := s1.trans (s3.trans (s4.trans s5))
        refine ite2 (fun hm2 => ?_) (fun hm2 => ?_)
        · have hm2' : strD e ∈ (ds.take i).map strD := by simpa using hm2
          refine ⟨_, rfl, ?_⟩
          exact new1 E_c_InvalidFind_init (by decide) (by decide) (.int (i : Int)) trivial fun cls dd v' H' s e' r => q2 _ _ (ck_bad hi hl he (.inr hm2') hn) cls dd v' H' (s15.trans s) e' r
        · have hm2' : strD e ∉ (ds.take i).map strD := by simpa using hm2
          refine ⟨_, _, rfl, s3.trans (s4.trans s5), fun j e' hj he' => ?_⟩
          rcases Nat.lt_succ_iff_lt_or_eq.mp hj with z | z
          · exact hn j e' z he'
          · rw [z, he] at he'
            cases he'
            rw [z]
            exact ⟨hm', hm2'⟩
      rintro σ H2 ⟨y1, y2, rfl, s2, hn⟩
      exact q1 (ck_good hi l0 hl fun j e he => hn j e (by rw [al.len]; exact lt_of_get he) he) H2 (s1.trans s2)
    · refine ⟨_, rfl, b, vs, rfl, .inr ⟨hq, for_it walk_enumT (fun i σ H' => ∃ y1 y2 : Option V, σ = [some (.ref b), y1, y2] ∧ Same H1 H' ∧ ∀ j e, j < i → ds[j]? = some e → nmD e = true ∧ strD e ∉ (ds.take j).map strD) ⟨_, _, rfl, Same.refl H1, fun j e hj => absurd hj (Nat.not_lt_zero j)⟩ (fun i σ H' _ z => by obtain ⟨_, _, _, s, _⟩ := z; exact same_t s hq) ?_ ?_⟩⟩
      · rintro i x σ H2 H3 _ ⟨y1, y2, rfl, s2, hn⟩ ⟨T, x1, x2, rfl, nT, rfl, e1, e2⟩
        cases e1
        obtain ⟨e, he, re⟩ := step i x2 H2 s2 e2
        have s3 := s2.trans (same_new (o := .tup [.int (i : Nat), x2]) nT)
        refine ⟨T, _, rfl, .inl (.inl upd_same), rfl, _, _, rfl, _, _, rfl, rfl, ?_⟩
        refine ⟨_, rfl, x2, e, rfl, re.to (same_new nT), hlv e (List.mem_of_getElem? he), fun H4 s4 => ?_⟩
        refine ⟨_, rfl, ite2 (fun hm => ?_) (fun hm => ?_)⟩
        · have hm' : nmD e = false := by simpa using hm
          refine ⟨_, rfl, ?_⟩
          exact new1 E_c_InvalidFind_init (by decide) (by decide) (.int (i : Int)) trivial fun cls dd v' H' s e' r => q2 _ _ (ck_bad hi hl he (.inl hm') hn) cls dd v' H' (s1.trans ((s3.trans s4).trans s)) e' r
        have hm' : nmD e = true := by simpa using hm
        have ex := nmD_str hm'
        rw [ex] at re
        cases re
        have hpre : vs.take i = ((ds.take i).map strD).map V.str := da_strs (al.take i) (List.all_eq_true.mpr fun e' he' => by
          obtain ⟨j, hj⟩ := List.getElem?_of_mem he'
          rw [List.getElem?_take] at hj
          by_cases w : j < i
          · rw [if_pos w] at hj
            exact (hn j e' w hj).1
          · rw [if_neg w] at hj
            cases hj)
        refine ⟨_, rfl, _, rfl, _, rfl, (i : Int), rfl, b, vs, rfl, (hqs _ (s3.trans s4)), fun R H5 s5 eR => ?_⟩
        rw [cut_to _ (Int.natCast_nonneg i), Int.toNat_natCast, hpre] at eR
        refine ⟨R, _, rfl, eR, rfl, flatS _, _, rfl, ?_⟩
        rw [inS]
        have s15 := s1.trans (s3.trans (s4.trans s5))
        refine ite2 (fun hm2 => ?_) (fun hm2 => ?_)
        · have hm2' : strD e ∈ (ds.take i).map strD := by simpa using hm2
          refine ⟨_, rfl, ?_⟩
          exact new1 E_c_InvalidFind_init (by decide) (by decide) (.int (i : Int)) trivial fun cls dd v' H' s e' r => q2 _ _ (ck_bad hi hl he (.inr hm2') hn) cls dd v' H' (s15.trans s) e' r
        · have hm2' : strD e ∉ (ds.take i).map strD := by simpa using hm2
          refine ⟨_, _, rfl, s3.trans (s4.trans s5), fun j e' hj he' => ?_⟩
          rcases Nat.lt_succ_iff_lt_or_eq.mp hj with z | z
          · exact hn j e' z he'
          · rw [z, he] at he'
            cases he'
            rw [z]
            exact ⟨hm', hm2'⟩
      rintro σ H2 ⟨y1, y2, rfl, s2, hn⟩
      exact q1 (ck_good hi l0 hl fun j e he => hn j e (by rw [al.len]; exact lt_of_get he) he) H2 (s1.trans s2)
end
end Th
namespace Th
open PySem PySem.Spec PyProof.Rows L2
abbrev s_c_InvalidWord_init : Stmt := inClass (topS 6) 0
theorem sc_c_InvalidWord_init : FnScope ["self", "at"] ["self", "at"] (defScope s_c_InvalidWord_init) := ⟨rfl, rfl, rfl, by decide +kernel, rfl, by decide +kernel, by decide +kernel⟩

section
variable {P : Program} {w : World} {K : PySem.W.Frag} {mg : Str → Option Value} {base : Heap} {CB : Addr}
theorem has_c_InvalidWord_init {fI : Addr} {fd : FuncData} (Z : Zs mg) (F : Fun K "__init__" "InvalidWord.__init__" s_c_InvalidWord_init fI fd) (h_p_copied : Has P w K mg base "copied" s_p_copied 6 ["value"] (spCopy K 6)) : FnOk P w K mg base CX0 7 fI fd ["self", "at"] (spInit1 K "InvalidWord" "at" 6) := by
  obtain ⟨f_p_copied, fd_p_copied, G_p_copied, m_p_copied, k_p_copied, b_p_copied, F_p_copied⟩ := h_p_copied
  refine F.ok sc_c_InvalidWord_init (fun vs H Q E h => ?_) (fun cdv A outer s H vs Q E hr h => ?_)
  · obtain ⟨a, C, v, d, rfl, _⟩ := h
    rfl
  · obtain ⟨a, C, v, d, rfl, G, n1, n2, ea, rv, lv, q⟩ := h
    refine ⟨_, (pss_cons (ps_put (pv 0) (pe_call G_p_copied (hr.mono (by decide)) (by rfl) m_p_copied k_p_copied b_p_copied .nil pass0 (pa_cons (pv 1) pa_nil))) (pss_one (ps_put (pv 0) pe_str))), ?_⟩
    refine ⟨_, rfl, v, d, fun b => b = a, rfl, fun b hb => (by rw [hb, ea]; exact fun z => nomatch z), rv.kd fun b o e p => ?_, lv, fun v' H1 s1 rv' => ?_⟩
    · rw [hidS_out fun z => ?_]
      · exact e
      · rw [z, ea] at e
        exact p.1 _ (Option.some.inj e).symm
    · have ea1 := s1 _ _ ea
      refine ⟨_, rfl, a, C, rfl, G, n1, .inl ⟨ea1, fun dx nd ne => ?_⟩⟩
      refine ⟨_, rfl, a, C, rfl, G, n2, .inr ⟨dx, [("at", v')], upd_same, ?_, (by show 1 ≤ 900; decide), ?_⟩⟩
      · rw [upd_ne ne]; exact upd_same
      · exact q H1 v' dx s1 (rv'.to hidS_same) nd ne
end
end Th
namespace Th
open PySem PySem.Spec PyProof.Rows L2
abbrev s_p_are_names : Stmt := topS 18
theorem sc_p_are_names : FnScope ["values", "value"] ["values"] (defScope s_p_are_names) := ⟨rfl, rfl, rfl, by decide +kernel, rfl, by decide +kernel, by decide +kernel⟩
/-- whether all items of a tuple are names -/
def spNmsT (K : PySem.W.Frag) : Sp := fun vs H Q _ => ∃ (a : Addr) (xs : List V) (ds : List PyData), vs = [.ref a] ∧ SqT K H a xs ∧ DaAll K H xs ds ∧ ds.length ≤ 1000 ∧ (∀ d ∈ ds, Lv 5 d) ∧ ∀ H', Same H H' → Q (.bl (ds.all nmD)) H'
theorem all_take {f : PyData → Bool} (l : List PyData) : (l.map f).all id = l.all f := by
  rw [List.all_map]
  rfl
section
variable {P : Program} {w : World} {K : PySem.W.Frag} {mg : Str → Option Value} {base : Heap} {CB : Addr}
theorem has_p_are_names (Z : Zs mg) (A : At K mg "are_names" s_p_are_names ["values"]) (h_p_is_name : Has P w K mg base "is_name" s_p_is_name 1 ["value"] (spJ K 5 nmD)) : Has P w K mg base "are_names" s_p_are_names 2 ["values"] (spNmsT K) := by
  obtain ⟨f, fd, F, mg1, bd⟩ := A
  obtain ⟨f_p_is_name, fd_p_is_name, G_p_is_name, m_p_is_name, k_p_is_name, b_p_is_name, F_p_is_name⟩ := h_p_is_name
  refine ⟨f, fd, ?_, mg1, F.kp, bd, F⟩
  refine F.ok sc_p_are_names (fun vs H Q E h => ?_) (fun cdv A outer s H vs Q E hr h => ?_)
  · obtain ⟨a, xs, ds, rfl, _⟩ := h
    rfl
  · obtain ⟨a, xs, ds, rfl, hS, r, hl, lv, q⟩ := h
    refine ⟨_, (pss_one (ps_ret (pe_callB (cr_all rfl) (by rfl) Z.all_ (by decide +kernel) (pa_cons (pe_lc (own := [("value", 1)]) (g := gName 1) (by rfl) sc_p_are_names.nd (pi_tup (pv 0)) (blkOk_by (own := [("value", 1)]) (N := ["values", "value"]) (sc := defScope s_p_are_names) (by decide +kernel)) (fun _ _ _ _ _ => pg_name (i := 1) sc_p_are_names.nd rfl (Or.inl rfl)) (fun _ _ _ _ _ => pts_nil) (fun _ _ _ _ _ => (pe_call G_p_is_name (hr.mono (by decide)) (by rfl) m_p_is_name k_p_is_name b_p_is_name .nil pass0 (pa_cons (pv 1) pa_nil)))) pa_nil)))), ?_⟩
    refine ⟨_, rfl, a, rfl, ⟨xs, hS⟩, fun L nL => ?_⟩
    have hlen := r.len
    refine lc_tup (K := K) (a := a) (xs := xs) (fun i H2 => Same H H2 ∧ H2 L = some (.lst ((ds.take i).map fun d => V.bl (nmD d)))) ⟨same_new nL, upd_same⟩ (fun i H2 _ z => same_t z.1 hS) ?_ ?_
    · rintro i v H2 hi ⟨s2, e2⟩
      obtain ⟨d, hd, rd⟩ := r.at hi
      refine ⟨rfl, _, rfl, v, d, rfl, rd.to s2, lv d (List.mem_of_getElem? hd), fun H3 s3 => ?_⟩
      refine ⟨_, s3 _ _ e2, slineL (by rw [List.length_map, List.length_take]; omega), same_mut (s2.trans s3) nL, ?_⟩
      rw [upd_same, take_succ_map hd]
    · rintro H2 ⟨s2, e2⟩
      rw [hlen, List.take_length] at e2
      refine ⟨L, ds.map nmD, rfl, .inl (.inl (by rw [e2, List.map_map]; rfl)), ?_⟩
      rw [all_take]
      exact q H2 s2
end
end Th
namespace Th
open PySem PySem.Spec PyProof.Rows L2
abbrev s_p_is_lot : Stmt := topS 21
theorem sc_p_is_lot : FnScope ["value"] ["value"] (defScope s_p_is_lot) := ⟨rfl, rfl, rfl, by decide +kernel, rfl, by decide +kernel, by decide +kernel⟩

section
variable {P : Program} {w : World} {K : PySem.W.Frag} {mg : Str → Option Value} {base : Heap} {CB : Addr}
theorem has_p_is_lot (Z : Zs mg) (A : At K mg "is_lot" s_p_is_lot ["value"]) (h_p_are_names : Has P w K mg base "are_names" s_p_are_names 2 ["values"] (spNmsT K)) : Has P w K mg base "is_lot" s_p_is_lot 3 ["value"] (spJ K 4 lotD) := by
  obtain ⟨f, fd, F, mg1, bd⟩ := A
  obtain ⟨f_p_are_names, fd_p_are_names, G_p_are_names, m_p_are_names, k_p_are_names, b_p_are_names, F_p_are_names⟩ := h_p_are_names
  refine ⟨f, fd, ?_, mg1, F.kp, bd, F⟩
  refine F.ok sc_p_is_lot (fun vs H Q E h => ?_) (fun cdv A outer s H vs Q E hr h => ?_)
  · obtain ⟨v, d, rfl, _⟩ := h
    rfl
  · obtain ⟨v, d, rfl, r, lv, q⟩ := h
    have nd := r.nodict
    refine ⟨_, (pss_cons (ps_if (PW.pt (pw_or (pt_not (pt_val (pe_callB call_isi (by rfl) Z.isinstance_ (by decide +kernel) (pa_cons (pv 0) (pa_cons (pe_bltn (v := .ty "tuple") (by rfl) Z.tuple_ (by decide +kernel) rfl) pa_nil))))) (pw_or (pt_cmpR op_eq (pe_callB call_len_seq (by rfl) Z.len_ (by decide +kernel) (pa_cons (pv 0) pa_nil)) pe_int (nomark _)) (pw_or1 (pt_not (pt_val (pe_call G_p_are_names (hr.mono (by decide)) (by rfl) m_p_are_names k_p_are_names b_p_are_names .nil pass0 (pa_cons (pv 0) pa_nil)))))))) (pss_one (ps_ret pe_bl)) pss_nil) (pss_one (ps_ret (pe_cmpR (op_eqD hr.units) (pe_callTy call_list_of (by rfl) Z.list_ (by decide +kernel) (pa_cons (pv 0) pa_nil)) (pe_callB (cr_sortedSetS rfl) (by rfl) Z.sorted_ (by decide +kernel) (pa_cons (pe_callTy (cr_setS rfl) (by rfl) Z.set_ (by decide +kernel) (pa_cons (pv 0) pa_nil)) pa_nil)) (nomark _))))), ?_⟩
    refine ⟨_, rfl, v, _, _, _, _, rfl, .ty "tuple", r.ty, kit_ty (kit_tuple d nd), _, rfl, ?_⟩
    cases d with
    | tuple ds =>
      cases r with
      | tup hs ht ra =>
        rename_i a xs
        have hl := ra.len
        have hl2 : ds.length ≤ 60 := lv.1
        refine iteF ?_
        refine ⟨_, rfl, a, xs, rfl, .inr hs, rfl, _, rfl, ?_⟩
        refine ite2 (fun h0 => ?_) (fun h0 => ?_)
        · have e0 : ds = [] := by
            have z : ((xs.length : Nat) : Int) = 0 := V.int.inj (of_decide_eq_true h0)
            exact List.length_eq_zero_iff.mp (by omega)
          subst e0
          exact iteT (q H (Same.refl H))
        · have ne0 : ds.isEmpty = false := by
            cases ds with
            | nil => exact absurd (decide_eq_true (by rw [hl]; rfl)) h0
            | cons _ _ => rfl
          refine ⟨_, rfl, a, xs, ds, rfl, hs, ra, by omega, fun d hd => Lv.up _ _ (lv.2 d hd) |> Lv.up _ _, fun H1 s1 => ⟨_, rfl, ?_⟩⟩
          cases hn : ds.all nmD with
          | false =>
            refine iteT ?_
            have q1 := q H1 s1
            rw [show lotD (.tuple ds) = false by rw [lotD_tup, hn, Bool.and_false, Bool.false_and]] at q1
            exact q1
          | true =>
            refine iteF ?_
            have es := nms_strs hn
            generalize hx : ds.map strD = zs at es
            have ra' : DaAll K H xs (zs.map .str) := by rw [← es]; exact ra
            have exs := ra'.isStrs
            subst exs
            have hs1 := same_t s1 hs
            have lz : zs.length ≤ 60 := by rw [← hx, List.length_map]; exact hl2
            refine ⟨_, rfl, a, _, rfl, .inr hs1, fun l nl => ?_⟩
            refine ⟨_, rfl, a, zs, rfl, .inr (same_t (same_new nl) hs1), scan_small (by omega), fun p np => ?_⟩
            have lo := once_length zs []
            refine ⟨p, _, rfl, upd_same, by simp at lo; omega, fun ys u pm so nu => ?_⟩
            have el : (upd (upd (upd H1 l (.lst (zs.map V.str))) p (SetS P w p (once [] zs))) u (.lst (ys.map V.str))) l = some (.lst (zs.map V.str)) := by
              have z1 : l ≠ p := ne_of_none (upd_same (H := H1) (a := l)) np
              have z2 : (upd (upd H1 l (.lst (zs.map V.str))) p (SetS P w p (once [] zs))) l = some (.lst (zs.map V.str)) := by rw [upd_ne z1]; exact upd_same
              rw [upd_ne (ne_of_none z2 nu)]
              exact z2
            have ly : ys.length ≤ 60 := by rw [pm.length_eq]; simp at lo; omega
            have nz : ∀ x ∈ zs, isNm x = true := fun x hx' => by
              have m : PyData.str x ∈ ds := by rw [es]; exact List.mem_map.mpr ⟨x, hx', rfl⟩
              exact List.all_eq_true.mp hn _ m
            have ny : ∀ x ∈ ys, isNm x = true := fun x hx' => by
              have m := (once_mem zs [] x).mp (pm.mem_iff.mp hx')
              rcases m with m | m
              · cases m
              · exact nz x m
            refine ⟨.list (zs.map .str), .list (ys.map .str), .lst (.inl (.inl el)) (DaAll.dp (K := K) _ _ (DaAll.strs zs)), .lst (.inl (.inl upd_same)) (DaAll.dp (K := K) _ _ (DaAll.strs ys)), (lv_lotL (n := 0) nz lz).shaped (by decide), (lv_lotL (n := 0) ny ly).shaped (by decide), ?_⟩
            have e : PyData.eqv (.list (zs.map .str)) (.list (ys.map .str)) = lotD (.tuple ds) := by
              have e1 : PyData.eqv (.list (zs.map .str)) (.list (ys.map .str)) = PyData.eqvAll (zs.map .str) (ys.map .str) := by simp [PyData.eqv]
              rw [lotD_tup, e1, eqv_strs, ne0, hn, hx, Bool.eq_iff_iff, decide_eq_true_eq, lot_iff pm so]
              simp
            rw [e]
            exact q _ (((s1.trans (same_new nl)).trans (same_new np)).trans (same_new nu))
    | _ => exact iteT (iteT (q H (Same.refl H)))
end
end Th
namespace Th
open PySem PySem.Spec PyProof.Rows L2
abbrev s_p_is_within : Stmt := topS 25
theorem sc_p_is_within : FnScope ["one", "other", "name"] ["one", "other"] (defScope s_p_is_within) := ⟨rfl, rfl, rfl, by decide +kernel, rfl, by decide +kernel, by decide +kernel⟩
/-- whether all names of a lot stand in another, or in a list -/
def spWithin (K : PySem.W.Frag) : Sp := fun vs H Q _ => ∃ (a b : Addr) (xs zs : List Str), vs = [.ref a, .ref b] ∧ SqT K H a (xs.map V.str) ∧ (SqL K H b (zs.map V.str) ∨ SqT K H b (zs.map V.str)) ∧ xs.length ≤ 60 ∧
  ∀ (c : Bool) H', (c = true ↔ ∀ x ∈ xs, x ∈ zs) → Same H H' → Q (.bl c) H'
section
variable {P : Program} {w : World} {K : PySem.W.Frag} {mg : Str → Option Value} {base : Heap} {CB : Addr}
theorem has_p_is_within (Z : Zs mg) (A : At K mg "is_within" s_p_is_within ["one", "other"]) : Has P w K mg base "is_within" s_p_is_within 1 ["one", "other"] (spWithin K) := by
  obtain ⟨f, fd, F, mg1, bd⟩ := A
  refine ⟨f, fd, ?_, mg1, F.kp, bd, F⟩
  refine F.ok sc_p_is_within (fun vs H Q E h => ?_) (fun cdv A outer s H vs Q E hr h => ?_)
  · obtain ⟨a, b, xs, zs, rfl, _⟩ := h
    rfl
  · obtain ⟨a, b, xs, zs, rfl, ha, hb, hl, q⟩ := h
    refine ⟨_, (pss_one (ps_ret (pe_callB (cr_all rfl) (by rfl) Z.all_ (by decide +kernel) (pa_cons (pe_lc (own := [("name", 2)]) (g := gName 2) (by rfl) sc_p_is_within.nd (pi_tup (pv 0)) (blkOk_by (own := [("name", 2)]) (N := ["one", "other", "name"]) (sc := defScope s_p_is_within) (by decide +kernel)) (fun _ _ _ _ _ => pg_name (i := 2) sc_p_is_within.nd rfl (Or.inl rfl)) (fun _ _ _ _ _ => pts_nil) (fun _ _ _ _ _ => (pe_cmpR (show OpR _ (compareOp .In) (rIn K false) from op_in_seq) (pv 2) (pv 1) (by rfl)))) pa_nil)))), ?_⟩
    refine ⟨_, rfl, a, rfl, ⟨_, ha⟩, fun L nL => ?_⟩
    refine lc_tup (K := K) (a := a) (xs := xs.map V.str) (fun i H2 => Same H H2 ∧ H2 L = some (.lst (((xs.take i).map fun x => decide (x ∈ zs)).map V.bl))) ⟨same_new nL, upd_same⟩ (fun i H2 _ z => same_t z.1 ha) ?_ ?_
    · rintro i y H2 hi ⟨s2, e2⟩
      obtain ⟨x, hx, rfl⟩ := getmap hi
      have hb2 : SqL K H2 b (zs.map V.str) ∨ SqT K H2 b (zs.map V.str) := hb.elim (fun z => .inl (s2.seq z)) (fun z => .inr (same_t s2 z))
      refine ⟨rfl, _, rfl, _, rfl, b, _, rfl, hb2, rfl, flatS zs, ?_⟩
      rw [if_neg Bool.false_ne_true, inS]
      refine ⟨_, e2, slineL (by rw [List.length_map, List.length_map, List.length_take]; omega), same_mut s2 nL, ?_⟩
      rw [upd_same, take_succ_map hx, List.map_append]
      rfl
    · rintro H2 ⟨s2, e2⟩
      rw [List.length_map, List.take_length] at e2
      refine ⟨L, _, rfl, .inl (.inl e2), ?_⟩
      refine q _ _ ?_ s2
      rw [List.all_map, List.all_eq_true]
      exact ⟨fun z x hx => of_decide_eq_true (z x hx), fun z x hx => decide_eq_true (z x hx)⟩
end
end Th
namespace Th
open PySem PySem.Spec PyProof.Rows L2
abbrev s_p_is_lot_of : Stmt := topS 22
theorem sc_p_is_lot_of : FnScope ["finds", "value"] ["finds", "value"] (defScope s_p_is_lot_of) := ⟨rfl, rfl, rfl, by decide +kernel, rfl, by decide +kernel, by decide +kernel⟩
/-- whether a datum is a lot of names of a list -/
def lotIn (xs : List Str) (d : PyData) : Bool := match d with
  | .tuple ds => lotD (.tuple ds) && (ds.map strD).all fun y => decide (y ∈ xs)
  | _ => false
def spLotIn (K : PySem.W.Frag) : Sp := fun vs H Q _ => ∃ (a : Addr) (xs : List Str) (v : V) (d : PyData), vs = [.ref a, v] ∧ (SqL K H a (xs.map V.str) ∨ SqT K H a (xs.map V.str)) ∧ Da K H v d ∧ Lv 4 d ∧ ∀ H', Same H H' → Q (.bl (lotIn xs d)) H'
section
variable {P : Program} {w : World} {K : PySem.W.Frag} {mg : Str → Option Value} {base : Heap} {CB : Addr}
theorem has_p_is_lot_of (Z : Zs mg) (A : At K mg "is_lot_of" s_p_is_lot_of ["finds", "value"]) (h_p_is_lot : Has P w K mg base "is_lot" s_p_is_lot 3 ["value"] (spJ K 4 lotD)) (h_p_is_within : Has P w K mg base "is_within" s_p_is_within 1 ["one", "other"] (spWithin K)) : Has P w K mg base "is_lot_of" s_p_is_lot_of 4 ["finds", "value"] (spLotIn K) := by
  obtain ⟨f, fd, F, mg1, bd⟩ := A
  obtain ⟨f_p_is_lot, fd_p_is_lot, G_p_is_lot, m_p_is_lot, k_p_is_lot, b_p_is_lot, F_p_is_lot⟩ := h_p_is_lot
  obtain ⟨f_p_is_within, fd_p_is_within, G_p_is_within, m_p_is_within, k_p_is_within, b_p_is_within, F_p_is_within⟩ := h_p_is_within
  refine ⟨f, fd, ?_, mg1, F.kp, bd, F⟩
  refine F.ok sc_p_is_lot_of (fun vs H Q E h => ?_) (fun cdv A outer s H vs Q E hr h => ?_)
  · obtain ⟨a, xs, v, d, rfl, _⟩ := h
    rfl
  · obtain ⟨a, xs, v, d, rfl, ha, r, lv, q⟩ := h
    refine ⟨_, (pss_one (ps_ret (pe_and (pe_call G_p_is_lot (hr.mono (by decide)) (by rfl) m_p_is_lot k_p_is_lot b_p_is_lot .nil pass0 (pa_cons (pv 1) pa_nil)) (pe_one (pe_call G_p_is_within (hr.mono (by decide)) (by rfl) m_p_is_within k_p_is_within b_p_is_within .nil pass0 (pa_cons (pv 1) (pa_cons (pv 0) pa_nil))))))), ?_⟩
    refine ⟨_, rfl, v, d, rfl, r, lv, fun H1 s1 => ⟨_, rfl, ite2 (fun hl => ?_) (fun hl => ?_)⟩⟩
    · cases d with
      | tuple ds =>
        cases r with
        | tup sq ty al =>
          have hl2 : (!ds.isEmpty && ds.all nmD && risB (ds.map strD)) = true := hl
          have hn : ds.all nmD = true := (Bool.and_eq_true_iff.mp (Bool.and_eq_true_iff.mp hl2).1).2
          have ed := nms_strs hn
          have el : (ds.map strD).length ≤ 60 := by
            rw [List.length_map]
            exact lv.1
          have al2 := al
          rw [ed] at al2
          have ev := al2.isStrs
          subst ev
          refine ⟨_, rfl, _, rfl, _, a, ds.map strD, xs, rfl, same_t s1 sq, sq_any s1 ha, el, fun c H2 hc s2 => ?_⟩
          have e : c = lotIn xs (.tuple ds) := by
            show c = (lotD (.tuple ds) && (ds.map strD).all fun y => decide (y ∈ xs))
            rw [hl, Bool.true_and, Bool.eq_iff_iff, hc, List.all_eq_true]
            exact ⟨fun z y hy => decide_eq_true (z y hy), fun z y hy => of_decide_eq_true (z y hy)⟩
          rw [e]
          exact q H2 (s1.trans s2)
      | _ => cases hl
    · have hl' : lotD d = false := Bool.eq_false_iff.mpr hl
      have e : lotIn xs d = false := by
        cases d with
        | tuple ds =>
          show (lotD (.tuple ds) && _) = false
          rw [hl', Bool.false_and]
        | _ => rfl
      rw [← e]
      exact q H1 s1
end
end Th
namespace Th
open PySem PySem.Spec PyProof.Rows L2
abbrev s_p_is_word_of : Stmt := topS 76
theorem sc_p_is_word_of : FnScope ["finds", "value"] ["finds", "value"] (defScope s_p_is_word_of) := ⟨rfl, rfl, rfl, by decide +kernel, rfl, by decide +kernel, by decide +kernel⟩
/-- a datum is a word of some finds: a mark and a lot -/
def wordIn (xs : List Str) : PyData → Bool
  | .tuple [m, l] => nmD m && lotIn xs l
  | _ => false
theorem wordIn_len {xs : List Str} {ds : List PyData} (h : ds.length ≠ 2) : wordIn xs (.tuple ds) = false := by
  cases ds with
  | nil => rfl
  | cons a r =>
    cases r with
    | nil => rfl
    | cons b r =>
      cases r with
      | nil => exact absurd rfl h
      | cons _ _ => rfl
def spWordIn (K : PySem.W.Frag) : Sp := fun vs H Q _ => ∃ (p : Addr) (ns : List Str) (v : V) (d : PyData), vs = [.ref p, v] ∧ (SqL K H p (ns.map V.str) ∨ SqT K H p (ns.map V.str)) ∧ Da K H v d ∧ Lv 5 d ∧ ∀ H', Same H H' → Q (.bl (wordIn ns d)) H'
section
variable {P : Program} {w : World} {K : PySem.W.Frag} {mg : Str → Option Value} {base : Heap} {CB : Addr}
theorem has_p_is_word_of (Z : Zs mg) (A : At K mg "_is_word_of" s_p_is_word_of ["finds", "value"]) (h_p_is_name : Has P w K mg base "is_name" s_p_is_name 1 ["value"] (spJ K 5 nmD)) (h_p_is_lot_of : Has P w K mg base "is_lot_of" s_p_is_lot_of 4 ["finds", "value"] (spLotIn K)) : Has P w K mg base "_is_word_of" s_p_is_word_of 5 ["finds", "value"] (spWordIn K) := by
  obtain ⟨f, fd, F, mg1, bd⟩ := A
  obtain ⟨f_p_is_name, fd_p_is_name, G_p_is_name, m_p_is_name, k_p_is_name, b_p_is_name, F_p_is_name⟩ := h_p_is_name
  obtain ⟨f_p_is_lot_of, fd_p_is_lot_of, G_p_is_lot_of, m_p_is_lot_of, k_p_is_lot_of, b_p_is_lot_of, F_p_is_lot_of⟩ := h_p_is_lot_of
  refine ⟨f, fd, ?_, mg1, F.kp, bd, F⟩
  refine F.ok sc_p_is_word_of (fun vs H Q E h => ?_) (fun cdv A outer s H vs Q E hr h => ?_)
  · obtain ⟨p, ns, v, d, rfl, _⟩ := h
    rfl
  · obtain ⟨p, ns, v, d, rfl, hp, r, lv, q⟩ := h
    have nd := r.nodict
    refine ⟨_, (pss_one (ps_ret (pe_and (pe_callB call_isi (by rfl) Z.isinstance_ (by decide +kernel) (pa_cons (pv 1) (pa_cons (pe_bltn (v := .ty "tuple") (by rfl) Z.tuple_ (by decide +kernel) rfl) pa_nil))) (pe_and (pe_cmpR op_eq (pe_callB call_len_seq (by rfl) Z.len_ (by decide +kernel) (pa_cons (pv 1) pa_nil)) pe_int (nomark _)) (pe_and (pe_call G_p_is_name (hr.mono (by decide)) (by rfl) m_p_is_name k_p_is_name b_p_is_name .nil pass0 (pa_cons (pe_ix ix_tup (pv 1) pe_int (fun _ _ => rfl)) pa_nil)) (pe_one (pe_call G_p_is_lot_of (hr.mono (by decide)) (by rfl) m_p_is_lot_of k_p_is_lot_of b_p_is_lot_of .nil pass0 (pa_cons (pv 0) (pa_cons (pe_ix ix_tup (pv 1) pe_int (fun _ _ => rfl)) pa_nil))))))))), ?_⟩
    refine ⟨_, rfl, v, _, _, _, _, rfl, .ty "tuple", r.ty, kit_ty (kit_tuple d nd), _, rfl, ?_⟩
    cases d with
    | tuple ds =>
      cases r with
      | tup hs ht ra =>
        rename_i a xs
        have hl := ra.len
        refine iteT ?_
        refine ⟨_, rfl, a, xs, rfl, .inr hs, rfl, _, rfl, ?_⟩
        refine ite2 (fun h2 => ?_) (fun h2 => ?_)
        · have z : ((xs.length : Nat) : Int) = 2 := V.int.inj (of_decide_eq_true h2)
          obtain ⟨m, f0, e⟩ : ∃ m f0, ds = [m, f0] := by
            cases ds with
            | nil => rw [List.length_nil] at hl; omega
            | cons m r =>
              cases r with
              | nil => rw [List.length_cons, List.length_nil] at hl; omega
              | cons f0 r =>
                cases r with
                | nil => exact ⟨m, f0, rfl⟩
                | cons _ _ => rw [List.length_cons, List.length_cons, List.length_cons] at hl; omega
          subst e
          obtain ⟨v0, hv0, r0⟩ := ra.at' (i := 0) (d := m) rfl
          obtain ⟨v1, hv1, r1⟩ := ra.at' (i := 1) (d := f0) rfl
          refine ⟨_, rfl, a, xs, 0, v0, rfl, rfl, hs, atI_of (by decide) hv0, v0, m, rfl, r0, (lv_in lv List.mem_cons_self).up, fun H1 s1 => ⟨_, rfl, ?_⟩⟩
          cases hm : nmD m with
          | false =>
            refine iteF ?_
            have q1 := q H1 s1
            rw [show wordIn ns (.tuple [m, f0]) = (nmD m && lotIn ns f0) from rfl, hm] at q1
            exact q1
          | true =>
            refine iteT ?_
            refine ⟨_, rfl, _, rfl, a, xs, 1, v1, rfl, rfl, same_t s1 hs, atI_of (by decide) hv1, p, ns, v1, f0, rfl, sq_any s1 hp, r1.to s1, lv_in lv (List.mem_cons_of_mem _ List.mem_cons_self), fun H2 s2 => ?_⟩
            have q1 := q H2 (s1.trans s2)
            rw [show wordIn ns (.tuple [m, f0]) = (nmD m && lotIn ns f0) from rfl, hm] at q1
            exact q1
        · have q1 := q H (Same.refl H)
          rw [wordIn_len (fun z => h2 (decide_eq_true (by rw [hl, z]; rfl)))] at q1
          exact q1
    | _ => exact iteF (q H (Same.refl H))
end
end Th
namespace Th
open PySem PySem.Spec PyProof.Rows L2
abbrev s_c_DuplicateName_init : Stmt := inClass (topS 9) 0
theorem sc_c_DuplicateName_init : FnScope ["self", "name"] ["self", "name"] (defScope s_c_DuplicateName_init) := ⟨rfl, rfl, rfl, by decide +kernel, rfl, by decide +kernel, by decide +kernel⟩

section
variable {P : Program} {w : World} {K : PySem.W.Frag} {mg : Str → Option Value} {base : Heap} {CB : Addr}
theorem has_c_DuplicateName_init {fI : Addr} {fd : FuncData} (Z : Zs mg) (F : Fun K "__init__" "DuplicateName.__init__" s_c_DuplicateName_init fI fd) (h_p_copied : Has P w K mg base "copied" s_p_copied 6 ["value"] (spCopy K 6)) : FnOk P w K mg base CX0 7 fI fd ["self", "name"] (spInit1 K "DuplicateName" "name" 6) := by
  obtain ⟨f_p_copied, fd_p_copied, G_p_copied, m_p_copied, k_p_copied, b_p_copied, F_p_copied⟩ := h_p_copied
  refine F.ok sc_c_DuplicateName_init (fun vs H Q E h => ?_) (fun cdv A outer s H vs Q E hr h => ?_)
  · obtain ⟨a, C, v, d, rfl, _⟩ := h
    rfl
  · obtain ⟨a, C, v, d, rfl, G, n1, n2, ea, rv, lv, q⟩ := h
    refine ⟨_, (pss_cons (ps_put (pv 0) (pe_call G_p_copied (hr.mono (by decide)) (by rfl) m_p_copied k_p_copied b_p_copied .nil pass0 (pa_cons (pv 1) pa_nil))) (pss_one (ps_put (pv 0) pe_str))), ?_⟩
    refine ⟨_, rfl, v, d, fun b => b = a, rfl, fun b hb => (by rw [hb, ea]; exact fun z => nomatch z), rv.kd fun b o e p => ?_, lv, fun v' H1 s1 rv' => ?_⟩
    · rw [hidS_out fun z => ?_]
      · exact e
      · rw [z, ea] at e
        exact p.1 _ (Option.some.inj e).symm
    · have ea1 := s1 _ _ ea
      refine ⟨_, rfl, a, C, rfl, G, n1, .inl ⟨ea1, fun dx nd ne => ?_⟩⟩
      refine ⟨_, rfl, a, C, rfl, G, n2, .inr ⟨dx, [("name", v')], upd_same, ?_, (by show 1 ≤ 900; decide), ?_⟩⟩
      · rw [upd_ne ne]; exact upd_same
      · exact q H1 v' dx s1 (rv'.to hidS_same) nd ne
end
end Th
namespace Th
open PySem PySem.Spec PyProof.Rows L2
abbrev s_p_check_different : Stmt := topS 33
theorem sc_p_check_different : FnScope ["names", "at", "name"] ["names"] (defScope s_p_check_different) := ⟨rfl, rfl, rfl, by decide +kernel, rfl, by decide +kernel, by decide +kernel⟩
/-- texts, each once, or an error -/
def spDiff (K : PySem.W.Frag) (mg : Str → Option Value) : Sp := fun vs H Q E => ∃ (a : Addr) (xs : List Str), vs = [.ref a] ∧ SqL K H a (xs.map V.str) ∧ xs.length ≤ 1000 ∧ (∀ x ∈ xs, isNm x = true) ∧
  (dupAt xs = none → ∀ H', Same H H' → Q .non H') ∧ (∀ x, dupAt xs = some x → ∀ cls dd v' H', Same H H' → IsExc K mg "DuplicateName" [("code", .str "DuplicateName"), ("name", v')] cls dd H' → Da K H' v' (.str x) → E cls dd H')
section
variable {P : Program} {w : World} {K : PySem.W.Frag} {mg : Str → Option Value} {base : Heap} {CB : Addr}
theorem has_p_check_different (Z : Zs mg) (A : At K mg "check_different" s_p_check_different ["names"]) (h_c_DuplicateName_init : HasE P w K mg base "DuplicateName" "DuplicateName.__init__" s_c_DuplicateName_init ["self", "name"] ["name", "code"] 7 (spInit1 K "DuplicateName" "name" 6)) : HasX P w K mg base "check_different" s_p_check_different 9 ["names"] (spDiff K mg) := by
  obtain ⟨f, fd, F, mg1, bd⟩ := A
  obtain ⟨C_c_DuplicateName_init, fI_c_DuplicateName_init, fd_c_DuplicateName_init, E_c_DuplicateName_init, G_c_DuplicateName_init⟩ := h_c_DuplicateName_init
  refine ⟨f, fd, ?_, mg1, F.kp, bd, F⟩
  refine F.okX sc_p_check_different (fun vs H Q E h => ?_) (fun cdv A outer s H vs Q E hr h => ?_)
  · obtain ⟨a, xs, rfl, _⟩ := h
    rfl
  · obtain ⟨a, xs, rfl, ha, hl, nm, q1, q2⟩ := h
    refine ⟨_, (pss_one (ps_for (passes_of rfl) rfl (pi_enumLT (by rfl) Z.enumerate_ (pa_cons (pv 0) pa_nil)) (pg_tup (by rfl) (pgs_cons (pg_name (i := 1) sc_p_check_different.nd rfl (Or.inl rfl)) (pgs_cons (pg_name (i := 2) sc_p_check_different.nd rfl (Or.inl rfl)) pgs_nil))) (pss_one (ps_if (pt_cmpR op_in_seq (pv 2) (pe_slice sl_list (pv 0) po_none (po_some (pv 1))) (by rfl)) (pss_one (ps_raise rfl (takes_of rfl rfl rfl rfl) (pmk_new E_c_DuplicateName_init.g E_c_DuplicateName_init.ini E_c_DuplicateName_init.tI G_c_DuplicateName_init (hr.mono (by decide)) E_c_DuplicateName_init.b (by rfl) E_c_DuplicateName_init.m (pa_cons (pv 2) pa_nil)))) pss_nil)))), ?_⟩
    have lm : (xs.map V.str).length = xs.length := List.length_map _
    refine ⟨_, rfl, a, xs.map V.str, rfl, .inl ⟨ha, for_it walk_enum (fun i σ H' => ∃ y1 y2 : Option V, σ = [some (.ref a), y1, y2] ∧ Same H H' ∧ ∀ j y, j < i → xs[j]? = some y → y ∉ xs.take j) ⟨_, _, rfl, Same.refl H, fun j y hj => absurd hj (Nat.not_lt_zero j)⟩ (fun i σ H' _ z => by obtain ⟨_, _, _, s, _⟩ := z; exact s.seq ha) ?_ ?_⟩⟩
    · rintro i x σ H2 H3 _ ⟨y1, y2, rfl, s2, hn⟩ ⟨T, x1, x2, rfl, nT, rfl, e1, e2⟩
      cases e1
      obtain ⟨y, hy, rfl⟩ := getmap e2
      have hyl := lt_of_get hy
      have s3 := s2.trans (same_new (o := .tup [.int (i : Nat), .str y]) nT)
      refine ⟨T, _, rfl, .inl (.inl upd_same), rfl, _, _, rfl, _, _, rfl, rfl, ?_⟩
      refine ⟨_, rfl, _, rfl, _, rfl, (i : Int), rfl, a, _, rfl, s3.seq ha, fun R nR => ?_⟩
      have s4 := s3.trans (same_new (o := .lst (cutV (xs.map V.str) none (some (i : Int)))) nR)
      have ec : cutV (xs.map V.str) none (some (i : Int)) = (xs.take i).map V.str := by rw [cut_to _ (Int.natCast_nonneg i), Int.toNat_natCast, List.map_take]
      rw [ec] at s4 ⊢
      refine ⟨R, _, rfl, .inl (.inl (.inl upd_same)), rfl, flatS _, _, rfl, ?_⟩
      rw [inS]
      refine ite2 (fun hm => ?_) (fun hm => ?_)
      · have hm' : y ∈ xs.take i := by simpa using hm
        refine ⟨_, rfl, ?_⟩
        exact new1 E_c_DuplicateName_init (by decide) (by decide) (.str y) (lv_nm (n := 5) (nm y (List.mem_of_getElem? hy))) fun cls dd v' H' s e' r => q2 y (dupAt_some hy hm' hn) cls dd v' H' (s4.trans s) e' r
      · have hm' : y ∉ xs.take i := by simpa using hm
        refine ⟨_, _, rfl, s4, fun j z hj hz => ?_⟩
        by_cases e : j < i
        · exact hn j z e hz
        · have : j = i := by omega
          subst this
          rw [hy] at hz
          cases hz
          exact hm'
    · rintro σ H2 ⟨y1, y2, rfl, s2, hn⟩
      exact q1 (dupAt_none fun j y hy => hn j y (by rw [lm]; exact lt_of_get hy) hy) H2 s2
end
end Th
namespace Th
open PySem PySem.Spec PyProof.Rows L2
abbrev s_c_Book_init : Stmt := inClass (topS 75) 0
theorem sc_c_Book_init : FnScope ["self", "finds", "words", "at", "word", "mark", "_"] ["self", "finds", "words"] (defScope s_c_Book_init) := ⟨rfl, rfl, rfl, by decide +kernel, rfl, by decide +kernel, by decide +kernel⟩
/-- the names in a datum of finds -/
def namesD (d : PyData) : List Str := ((itemsF d).getD []).map strD
/-- what is wrong with words -/
def wdDue (xs : List Str) (d : PyData) : Option (Str × PyData) := match itemsF d with
  | none => dueE "InvalidWord" (.int (-1))
  | some ds => if 40 < ds.length then dueE "TooMany" (.int 40) else match firstIx (fun k => !wordIn xs (ds.getD k .none)) ds.length with
    | some k => dueE "InvalidWord" (.int (k : Int))
    | none => (dupAt (ds.map markOf)).bind fun x => dueE "DuplicateName" (.str x)
/-- what is wrong with finds and words -/
def bkDue (df dw : PyData) : Option (Str × PyData) := match ckDue df with
  | some e => some e
  | none => wdDue (namesD df) dw
theorem bk_ck {df dw : PyData} {e : Str × PyData} (h : ckDue df = some e) : bkDue df dw = some e := by
  unfold bkDue
  rw [h]
theorem bk_wd {df dw : PyData} (h : ckDue df = none) : bkDue df dw = wdDue (namesD df) dw := by
  unfold bkDue
  rw [h]
theorem names_of {d : PyData} {xs : List Str} (h : itemsF d = some (xs.map .str)) : namesD d = xs := by
  unfold namesD
  rw [h, Option.getD_some, List.map_map]
  exact (List.map_congr_left fun _ _ => rfl).trans (List.map_id xs)
theorem wd_none {xs : List Str} {d : PyData} (h : itemsF d = none) : wdDue xs d = dueE "InvalidWord" (.int (-1)) := by
  unfold wdDue
  rw [h]
theorem wd_many {xs : List Str} {d : PyData} {ds : List PyData} (h : itemsF d = some ds) (l : 40 < ds.length) : wdDue xs d = dueE "TooMany" (.int 40) := by
  unfold wdDue
  rw [h]
  show (if 40 < ds.length then _ else _) = _
  rw [if_pos l]
theorem wd_bad {xs : List Str} {d : PyData} {ds : List PyData} (h : itemsF d = some ds) (l : ds.length ≤ 40) {k : Nat} {e : PyData} (hk : ds[k]? = some e) (n : wordIn xs e = false) (a : ∀ (j : Nat) (e' : PyData), j < k → ds[j]? = some e' → wordIn xs e' = true) : wdDue xs d = dueE "InvalidWord" (.int (k : Int)) := by
  unfold wdDue
  rw [h]
  show (if 40 < ds.length then _ else _) = _
  rw [if_neg (by omega), firstIx_some (lt_of_get hk) (by rw [getDd hk, n]; rfl) fun j hj => ?_]
  obtain ⟨e', he⟩ : ∃ e', ds[j]? = some e' := ⟨_, List.getElem?_eq_getElem (Nat.lt_trans hj (lt_of_get hk))⟩
  rw [getDd he, a j e' hj he]
  rfl
theorem wd_ix {xs : List Str} {ds : List PyData} (a : ∀ (j : Nat) (e' : PyData), ds[j]? = some e' → wordIn xs e' = true) : firstIx (fun k => !wordIn xs (ds.getD k .none)) ds.length = none := firstIx_none fun j hj => by
  obtain ⟨e', he⟩ : ∃ e', ds[j]? = some e' := ⟨_, List.getElem?_eq_getElem hj⟩
  rw [getDd he, a j e' he]
  rfl
theorem wd_end {xs : List Str} {d : PyData} {ds : List PyData} (h : itemsF d = some ds) (l : ds.length ≤ 40) (a : ∀ (j : Nat) (e' : PyData), ds[j]? = some e' → wordIn xs e' = true) : wdDue xs d = (dupAt (ds.map markOf)).bind fun x => dueE "DuplicateName" (.str x) := by
  unfold wdDue
  rw [h]
  show (if 40 < ds.length then _ else _) = _
  rw [if_neg (by omega), wd_ix a]
theorem wd_dup {xs : List Str} {d : PyData} {ds : List PyData} (h : itemsF d = some ds) (l : ds.length ≤ 40) (a : ∀ (j : Nat) (e' : PyData), ds[j]? = some e' → wordIn xs e' = true) {x : Str} (hx : dupAt (ds.map markOf) = some x) : wdDue xs d = dueE "DuplicateName" (.str x) := by
  rw [wd_end h l a, hx]
  rfl
theorem wd_good {xs : List Str} {d : PyData} {ds : List PyData} (h : itemsF d = some ds) (l : ds.length ≤ 40) (a : ∀ (j : Nat) (e' : PyData), ds[j]? = some e' → wordIn xs e' = true) (hx : dupAt (ds.map markOf) = none) : wdDue xs d = none := by
  rw [wd_end h l a, hx]
  rfl
theorem word_shape {xs : List Str} {e : PyData} (h : wordIn xs e = true) : ∃ (m : Str) (l : PyData), e = .tuple [.str m, l] ∧ isNm m = true ∧ lotIn xs l = true := by
  cases e with
  | tuple ds =>
    cases ds with
    | nil => cases h
    | cons a ds =>
      cases ds with
      | nil => cases h
      | cons b ds =>
        cases ds with
        | cons _ _ => cases h
        | nil =>
          obtain ⟨h1, h2⟩ := Bool.and_eq_true_iff.mp (show (nmD a && lotIn xs b) = true from h)
          have ea := nmD_str h1
          rw [ea] at h1
          exact ⟨strD a, b, by rw [← ea], h1, h2⟩
  | _ => cases h
/-- a book of any finds and any words, or an error -/
def spBookI (K : PySem.W.Frag) (mg : Str → Option Value) (C : Addr) : Sp := fun vs H Q E => ∃ (b dx : Addr) (v w : V) (df dw : PyData), vs = [.ref b, v, w] ∧ Da K H v df ∧ (∀ ds, itemsF df = some ds → ∀ e ∈ ds, Lv 5 e) ∧ Da K H w dw ∧ (∀ ds, itemsF dw = some ds → ∀ e ∈ ds, Lv 5 e) ∧ H b = some (.ins C dx []) ∧
  (bkDue df dw = none → ∀ (ys : List Str) (ds : List PyData) H', itemsF dw = some ds → ys.Perm (namesD df) → sortedS ys = true → BookW K H' C b ys ds → (∀ c o, c ≠ b → H c = some o → H' c = some o) → Q .non H') ∧
  (∀ c val, bkDue df dw = some (c, val) → ∀ cls dd v' H', Same H H' → IsExc K mg c [("code", .str c), (fldOf c, v')] cls dd H' → Da K H' v' val → E cls dd H')
section
variable {P : Program} {w : World} {K : PySem.W.Frag} {mg : Str → Option Value} {base : Heap} {CB : Addr}
theorem has_c_Book_init {f : Addr} {fd : FuncData} {dvs : List V} (Z : Zs mg) (gMW : ∃ t, mg "MOST_WORDS" = some (.int 40 t)) (B : ClsF K mg CB "Book" ["_finds", "_words"]) (F : FunD K "__init__" "Book.__init__" (defArgs s_c_Book_init) (defBody s_c_Book_init) (defScope s_c_Book_init) dvs [] f fd) (h_p_check_finds : HasX P w K mg base "check_finds" s_p_check_finds 9 ["finds"] (spCkF K mg)) (h_p_is_listed : Has P w K mg base "is_listed" s_p_is_listed 1 ["value"] (spSeqQ K)) (h_c_InvalidWord_init : HasE P w K mg base "InvalidWord" "InvalidWord.__init__" s_c_InvalidWord_init ["self", "at"] ["at", "code"] 7 (spInit1 K "InvalidWord" "at" 6)) (h_c_TooMany_init : HasE P w K mg base "TooMany" "TooMany.__init__" s_c_TooMany_init ["self", "most"] ["most", "code"] 7 (spInit1 K "TooMany" "most" 6)) (h_p_is_word_of : Has P w K mg base "_is_word_of" s_p_is_word_of 5 ["finds", "value"] (spWordIn K)) (h_p_check_different : HasX P w K mg base "check_different" s_p_check_different 9 ["names"] (spDiff K mg)) : FnOk P w K mg base (L2.CX P w) 10 f fd ["self", "finds", "words"] (spBookI K mg CB) := by
  obtain ⟨f_p_check_finds, fd_p_check_finds, G_p_check_finds, m_p_check_finds, k_p_check_finds, b_p_check_finds, F_p_check_finds⟩ := h_p_check_finds
  obtain ⟨f_p_is_listed, fd_p_is_listed, G_p_is_listed, m_p_is_listed, k_p_is_listed, b_p_is_listed, F_p_is_listed⟩ := h_p_is_listed
  obtain ⟨C_c_InvalidWord_init, fI_c_InvalidWord_init, fd_c_InvalidWord_init, E_c_InvalidWord_init, G_c_InvalidWord_init⟩ := h_c_InvalidWord_init
  obtain ⟨C_c_TooMany_init, fI_c_TooMany_init, fd_c_TooMany_init, E_c_TooMany_init, G_c_TooMany_init⟩ := h_c_TooMany_init
  obtain ⟨f_p_is_word_of, fd_p_is_word_of, G_p_is_word_of, m_p_is_word_of, k_p_is_word_of, b_p_is_word_of, F_p_is_word_of⟩ := h_p_is_word_of
  obtain ⟨f_p_check_different, fd_p_check_different, G_p_check_different, m_p_check_different, k_p_check_different, b_p_check_different, F_p_check_different⟩ := h_p_check_different
  obtain ⟨tMW, g_MOST_WORDS⟩ := gMW
  refine F.ok (CX := L2.CX P w) sc_c_Book_init (fun vs H Q E h => ?_) (fun cdv A outer s H vs Q E hr h => ?_)
  · obtain ⟨b, dx, v, w, df, dw, rfl, _⟩ := h
    rfl
  · obtain ⟨b, dx, v, w, df, dw, rfl, rf, lf, rw_, lw, eb, q1, q2⟩ := h
    refine ⟨_, (pss_cons (ps_expr (pe_call G_p_check_finds (hr.mono (by decide)) (by rfl) m_p_check_finds k_p_check_finds b_p_check_finds .nil (passes_call (takes_of rfl rfl rfl rfl) fun _ _ _ _ h => h) (pa_cons (pv 1) pa_nil))) (pss_cons (ps_if (pt_not (pt_val (pe_call G_p_is_listed (hr.mono (by decide)) (by rfl) m_p_is_listed k_p_is_listed b_p_is_listed .nil pass0 (pa_cons (pv 2) pa_nil)))) (pss_one (ps_raise rfl (takes_of rfl rfl rfl rfl) (pmk_new E_c_InvalidWord_init.g E_c_InvalidWord_init.ini E_c_InvalidWord_init.tI G_c_InvalidWord_init (hr.mono (by decide)) E_c_InvalidWord_init.b (by rfl) E_c_InvalidWord_init.m (pa_cons (pe_un un_neg pe_int) pa_nil)))) pss_nil) (pss_cons (ps_if (pt_cmpR op_gt (pe_callB call_len_seq (by rfl) Z.len_ (by decide +kernel) (pa_cons (pv 2) pa_nil)) (pe_glob (v := .int 40) (by rfl) g_MOST_WORDS ⟨_, rfl⟩) (nomark _)) (pss_one (ps_raise rfl (takes_of rfl rfl rfl rfl) (pmk_new E_c_TooMany_init.g E_c_TooMany_init.ini E_c_TooMany_init.tI G_c_TooMany_init (hr.mono (by decide)) E_c_TooMany_init.b (by rfl) E_c_TooMany_init.m (pa_cons (pe_glob (v := .int 40) (by rfl) g_MOST_WORDS ⟨_, rfl⟩) pa_nil)))) pss_nil) (pss_cons (ps_for (passes_of rfl) rfl (pi_enumLT (by rfl) Z.enumerate_ (pa_cons (pv 2) pa_nil)) (pg_tup (by rfl) (pgs_cons (pg_name (i := 3) sc_c_Book_init.nd rfl (Or.inl rfl)) (pgs_cons (pg_name (i := 4) sc_c_Book_init.nd rfl (Or.inl rfl)) pgs_nil))) (pss_one (ps_if (pt_not (pt_val (pe_call G_p_is_word_of (hr.mono (by decide)) (by rfl) m_p_is_word_of k_p_is_word_of b_p_is_word_of .nil pass0 (pa_cons (pv 1) (pa_cons (pv 4) pa_nil))))) (pss_one (ps_raise rfl (takes_of rfl rfl rfl rfl) (pmk_new E_c_InvalidWord_init.g E_c_InvalidWord_init.ini E_c_InvalidWord_init.tI G_c_InvalidWord_init (hr.mono (by decide)) E_c_InvalidWord_init.b (by rfl) E_c_InvalidWord_init.m (pa_cons (pv 3) pa_nil)))) pss_nil))) (pss_cons (ps_expr (pe_call G_p_check_different (hr.mono (by decide)) (by rfl) m_p_check_different k_p_check_different b_p_check_different .nil (passes_call (takes_of rfl rfl rfl rfl) fun _ _ _ _ h => h) (pa_cons (pe_lc (own := [("mark", 5), ("_", 6)]) (g := gTup K 2 (gCons (gName 5) (gCons (gName 6) gNil))) (by rfl) sc_c_Book_init.nd (pi_LT (pv 2)) (blkOk_by (own := [("mark", 5), ("_", 6)]) (N := ["self", "finds", "words", "at", "word", "mark", "_"]) (sc := defScope s_c_Book_init) (by decide +kernel)) (fun _ _ _ _ _ => (pg_tup (by rfl) (pgs_cons (pg_name (i := 5) sc_c_Book_init.nd rfl (Or.inl rfl)) (pgs_cons (pg_name (i := 6) sc_c_Book_init.nd rfl (Or.inl rfl)) pgs_nil)))) (fun _ _ _ _ _ => pts_nil) (fun _ _ _ _ _ => (pv 5))) pa_nil))) (pss_cons (ps_fld (pv 0) (pe_callB cr_sortedLT (by rfl) Z.sorted_ (by decide +kernel) (pa_cons (pv 1) pa_nil)) rfl) (pss_one (ps_fld (pv 0) (pe_callTy call_list_of (by rfl) Z.list_ (by decide +kernel) (pa_cons (pv 2) pa_nil)) rfl)))))))), ?_⟩
    refine ⟨_, rfl, v, df, rfl, rf, lf, fun hck H1 s1 => ?_, fun c val hc cls dd v' H' s ie r => q2 c val (bk_ck hc) cls dd v' H' s ie r⟩
    obtain ⟨xs, hxi, nm, ne, hl12⟩ := ck_ok hck
    have hnx := names_of hxi
    have hdue : bkDue df dw = wdDue xs dw := by rw [bk_wd hck, hnx]
    obtain ⟨p, rfl, hp⟩ : ∃ p, v = .ref p ∧ (SqL K H p (xs.map V.str) ∨ SqT K H p (xs.map V.str)) := by
      cases rf with
      | non => cases hxi
      | bl _ => cases hxi
      | int _ => cases hxi
      | str _ => cases hxi
      | lst h1 _ h3 => cases hxi; exact ⟨_, rfl, .inl (by rw [← h3.isStrs]; exact h1)⟩
      | tup h1 _ h3 => cases hxi; exact ⟨_, rfl, .inr (by rw [← h3.isStrs]; exact h1)⟩
    refine ⟨_, rfl, w, dw, rfl, rw_.to s1, fun H2 s2 => ⟨_, rfl, ite2 (fun z => ?_) (fun z => ?_)⟩⟩
    · have hn := noseqF (d := dw) (fun w => by rw [decide_eq_true w] at z; cases z)
      refine ⟨_, rfl, ?_⟩
      exact new1 E_c_InvalidWord_init (by decide) (by decide) (.int (-1)) trivial fun cls dd v' H' s e r => q2 _ _ (by rw [hdue]; exact wd_none hn) cls dd v' H' ((s1.trans s2).trans s) e r
    have s12 := s1.trans s2
    obtain ⟨t, vs, ds, rfl, hq, al, hi⟩ := seqF (rw_.to s12) (Classical.byContradiction fun w => z (by rw [decide_eq_false w]; rfl))
    have hlv := lw ds hi
    refine ⟨_, rfl, t, vs, rfl, hq, _, _, rfl, rfl, _, rfl, ite2 (fun z => ?_) (fun z => ?_)⟩
    · have hlen : 40 < ds.length := by
        have z := of_decide_eq_true z
        rw [al.len] at z
        omega
      exact new1 E_c_TooMany_init (by decide) (by decide) (.int 40) trivial fun cls dd v' H' s e r => q2 _ _ (by rw [hdue]; exact wd_many hi hlen) cls dd v' H' (s12.trans s) e r
    have hl : ds.length ≤ 40 := by
      have z : ¬ ((vs.length : Nat) : Int) > 40 := fun w => z (decide_eq_true w)
      rw [al.len] at z
      omega
    have hlvs : vs.length ≤ 40 := by rw [al.len]; exact hl
    -- the fields
    rcases hq with hq | hq
    · skip
      refine ⟨_, rfl, t, vs, rfl, .inl ⟨hq, for_it walk_enum (fun i σ H' => ∃ y1 y2 : Option V, σ = [some (.ref b), some (.ref p), some (.ref t), y1, y2, none, none] ∧ Same H2 H' ∧ ∀ j e, j < i → ds[j]? = some e → wordIn xs e = true) ⟨_, _, rfl, Same.refl H2, fun j e hj => absurd hj (Nat.not_lt_zero j)⟩ (fun i σ H' _ z => by obtain ⟨_, _, _, s, _⟩ := z; exact Same.seq s hq) ?_ ?_⟩⟩
      · rintro i x σ H3 H4 _ ⟨y1, y2, rfl, s3, hn⟩ ⟨T, x1, x2, rfl, nT, rfl, e1, e2⟩
        cases e1
        obtain ⟨e, he, re⟩ := (al.to s3).at e2
        have s4 := same_new (o := .tup [.int (i : Nat), x2]) nT
        refine ⟨T, _, rfl, .inl (.inl upd_same), rfl, _, _, rfl, _, _, rfl, rfl, ?_⟩
        refine ⟨_, rfl, _, rfl, p, xs, x2, e, rfl, same_any (s12.trans (s3.trans s4)) hp, re.to s4, hlv e (List.mem_of_getElem? he), fun H5 s5 => ?_⟩
        have s15 := s3.trans (s4.trans s5)
        refine ⟨_, rfl, ite2 (fun hm => ?_) (fun hm => ?_)⟩
        · have hm' : wordIn xs e = false := by simpa using hm
          refine ⟨_, rfl, ?_⟩
          exact new1 E_c_InvalidWord_init (by decide) (by decide) (.int (i : Int)) trivial fun cls dd v' H' s e' r => q2 _ _ (by rw [hdue]; exact wd_bad hi hl he hm' hn) cls dd v' H' ((s12.trans s15).trans s) e' r
        · have hm' : wordIn xs e = true := by simpa using hm
          refine ⟨_, _, rfl, s15, fun j e' hj he' => ?_⟩
          rcases Nat.lt_succ_iff_lt_or_eq.mp hj with z | z
          · exact hn j e' z he'
          · rw [z, he] at he'
            cases he'
            exact hm'
      rintro σ H3 ⟨y1, y2, rfl, s3, hn⟩
      have hall : ∀ j e', ds[j]? = some e' → wordIn xs e' = true := fun j e' he => hn j e' (by rw [al.len]; exact lt_of_get he) he
      have shp : ∀ (j : Nat) (x : V) (H' : Hp), Same H2 H' → vs[j]? = some x → ∃ (q' : Addr) (m : Str) (x1 : V), x = .ref q' ∧ SqT K H' q' [.str m, x1] ∧ isNm m = true ∧ ∃ e, ds[j]? = some e ∧ markOf e = m := fun j x H' s hx => by
        obtain ⟨e, he, re⟩ := (al.to s).at hx
        obtain ⟨m, l, rfl, nm, _⟩ := word_shape (hall j e he)
        cases re with
        | tup sq ty ra =>
          cases ra with
          | cons r1 ra =>
            cases r1
            cases ra with
            | cons r2 ra =>
              cases ra
              exact ⟨_, m, _, rfl, sq, nm, _, he, rfl⟩
      -- the marks
      have lvs := al.len
      refine ⟨_, rfl, t, vs, rfl, .inl ⟨Same.seq s3 hq, fun L nL => ?_⟩⟩
      refine lc_list (K := K) (a := t) (xs := vs) (fun i H4 => Same H3 H4 ∧ H4 L = some (.lst (((ds.map markOf).take i).map V.str))) ⟨same_new nL, upd_same⟩ (fun i H4 _ z => Same.seq (s3.trans z.1) hq) ?_ ?_
      · rintro i x H4 hx ⟨s4, e4⟩
        obtain ⟨q', m, x1, rfl, sq, _, e, he, em⟩ := shp i x H4 (s3.trans s4) hx
        refine ⟨q', _, rfl, sq, rfl, _, _, rfl, _, _, rfl, rfl, rfl, _, rfl, _, e4, slineL (by rw [List.length_map, List.length_take, List.length_map]; omega), same_mut s4 nL, ?_⟩
        rw [upd_same, take_succ_map (f := V.str) (x := m) (by rw [List.getElem?_map, he, ← em]; rfl)]
      rintro H4 ⟨s4, e4⟩
      rw [List.take_of_length_le (by rw [List.length_map, lvs]; exact Nat.le_refl _)] at e4
      have nmk : ∀ x ∈ ds.map markOf, isNm x = true := fun x hx => by
        obtain ⟨e, he, rfl⟩ := List.mem_map.mp hx
        obtain ⟨j, hj⟩ := List.getElem?_of_mem he
        obtain ⟨m, l, rfl, nm, _⟩ := word_shape (hall j e hj)
        exact nm
      have s14 := s12.trans (s3.trans s4)
      refine ⟨L, ds.map markOf, rfl, .inl (.inl e4), by rw [List.length_map]; omega, nmk, fun hd H5 s5 => ?_, fun x hd cls dd v' H5 s5 ie rv' => q2 _ _ (by rw [hdue]; exact wd_dup hi hl hall hd) cls dd v' H5 (s14.trans s5) ie rv'⟩
      have s25 := s3.trans (s4.trans s5)
      have s05 := s12.trans s25
      refine ⟨_, rfl, p, xs, rfl, same_any s05 hp, by omega, fun ys r pm so nr => ?_⟩
      have s6 := s05.trans (same_new (o := .lst (ys.map V.str)) nr)
      have s26 := s25.trans (same_new (o := .lst (ys.map V.str)) nr)
      have er : (upd H5 r (.lst (ys.map V.str))) r = some (.lst (ys.map V.str)) := upd_same
      generalize upd H5 r (.lst (ys.map V.str)) = H6 at s6 s26 er ⊢
      have eb6 := s6 _ _ eb
      have nrb : r ≠ b := fun z => by rw [z] at er; rw [eb6] at er; cases er
      refine ⟨_, rfl, b, CB, dx, [], rfl, eb6, B.cl, B.na _ (by decide), by decide, ?_⟩
      have kS : KeepS H6 (upd H6 b (.ins CB dx (putF "_finds" (.ref r) []))) := KeepS.put eb6
      have keep : ∀ c o, c ≠ b → H c = some o → (upd H6 b (.ins CB dx (putF "_finds" (.ref r) []))) c = some o := fun c o n e => by rw [upd_ne n]; exact s6 _ _ e
      have et : (upd H6 b (.ins CB dx (putF "_finds" (.ref r) []))) b = some (.ins CB dx (putF "_finds" (.ref r) [])) := upd_same
      have er7 : (upd H6 b (.ins CB dx (putF "_finds" (.ref r) []))) r = some (.lst (ys.map V.str)) := by rw [upd_ne nrb]; exact er
      have hq7 := kS.lt (same_any s26 (.inl hq))
      have al7 := (al.to s26).ks kS
      generalize upd H6 b (.ins CB dx (putF "_finds" (.ref r) [])) = H7 at keep et er7 hq7 al7 ⊢
      refine ⟨_, rfl, t, vs, rfl, hq7, fun l nl => ?_⟩
      have nlb : l ≠ b := fun z => by rw [z, et] at nl; cases nl
      have et8 := kp (u := .lst vs) et nl
      refine ⟨_, rfl, b, CB, dx, _, rfl, et8, B.cl, B.na _ (by decide), by show 1 < 1000; decide, ?_⟩
      have al9 : DaAll K (upd (upd H7 l (.lst vs)) b (.ins CB dx (putF "_words" (.ref l) (putF "_finds" (.ref r) [])))) vs ds := (al7.to (same_new nl)).ks (KeepS.put et8)
      refine q1 (by rw [hdue]; exact wd_good hi hl hall hd) ys ds _ hi (by rw [hnx]; exact pm) so ⟨dx, r, l, vs, by rw [upd_same, put_two], ?_, ?_, al9⟩ fun c o n e => ?_
      · rw [upd_ne nrb]
        exact kp er7 nl
      · rw [upd_ne nlb]
        exact upd_same
      · rw [upd_ne n]
        exact kp (keep c o n e) nl
    · skip
      refine ⟨_, rfl, t, vs, rfl, .inr ⟨hq, for_it walk_enumT (fun i σ H' => ∃ y1 y2 : Option V, σ = [some (.ref b), some (.ref p), some (.ref t), y1, y2, none, none] ∧ Same H2 H' ∧ ∀ j e, j < i → ds[j]? = some e → wordIn xs e = true) ⟨_, _, rfl, Same.refl H2, fun j e hj => absurd hj (Nat.not_lt_zero j)⟩ (fun i σ H' _ z => by obtain ⟨_, _, _, s, _⟩ := z; exact same_t s hq) ?_ ?_⟩⟩
      · rintro i x σ H3 H4 _ ⟨y1, y2, rfl, s3, hn⟩ ⟨T, x1, x2, rfl, nT, rfl, e1, e2⟩
        cases e1
        obtain ⟨e, he, re⟩ := (al.to s3).at e2
        have s4 := same_new (o := .tup [.int (i : Nat), x2]) nT
        refine ⟨T, _, rfl, .inl (.inl upd_same), rfl, _, _, rfl, _, _, rfl, rfl, ?_⟩
        refine ⟨_, rfl, _, rfl, p, xs, x2, e, rfl, same_any (s12.trans (s3.trans s4)) hp, re.to s4, hlv e (List.mem_of_getElem? he), fun H5 s5 => ?_⟩
        have s15 := s3.trans (s4.trans s5)
        refine ⟨_, rfl, ite2 (fun hm => ?_) (fun hm => ?_)⟩
        · have hm' : wordIn xs e = false := by simpa using hm
          refine ⟨_, rfl, ?_⟩
          exact new1 E_c_InvalidWord_init (by decide) (by decide) (.int (i : Int)) trivial fun cls dd v' H' s e' r => q2 _ _ (by rw [hdue]; exact wd_bad hi hl he hm' hn) cls dd v' H' ((s12.trans s15).trans s) e' r
        · have hm' : wordIn xs e = true := by simpa using hm
          refine ⟨_, _, rfl, s15, fun j e' hj he' => ?_⟩
          rcases Nat.lt_succ_iff_lt_or_eq.mp hj with z | z
          · exact hn j e' z he'
          · rw [z, he] at he'
            cases he'
            exact hm'
      rintro σ H3 ⟨y1, y2, rfl, s3, hn⟩
      have hall : ∀ j e', ds[j]? = some e' → wordIn xs e' = true := fun j e' he => hn j e' (by rw [al.len]; exact lt_of_get he) he
      have shp : ∀ (j : Nat) (x : V) (H' : Hp), Same H2 H' → vs[j]? = some x → ∃ (q' : Addr) (m : Str) (x1 : V), x = .ref q' ∧ SqT K H' q' [.str m, x1] ∧ isNm m = true ∧ ∃ e, ds[j]? = some e ∧ markOf e = m := fun j x H' s hx => by
        obtain ⟨e, he, re⟩ := (al.to s).at hx
        obtain ⟨m, l, rfl, nm, _⟩ := word_shape (hall j e he)
        cases re with
        | tup sq ty ra =>
          cases ra with
          | cons r1 ra =>
            cases r1
            cases ra with
            | cons r2 ra =>
              cases ra
              exact ⟨_, m, _, rfl, sq, nm, _, he, rfl⟩
      -- the marks
      have lvs := al.len
      refine ⟨_, rfl, t, vs, rfl, .inr ⟨same_t s3 hq, fun L nL => ?_⟩⟩
      refine lc_tup (K := K) (a := t) (xs := vs) (fun i H4 => Same H3 H4 ∧ H4 L = some (.lst (((ds.map markOf).take i).map V.str))) ⟨same_new nL, upd_same⟩ (fun i H4 _ z => same_t (s3.trans z.1) hq) ?_ ?_
      · rintro i x H4 hx ⟨s4, e4⟩
        obtain ⟨q', m, x1, rfl, sq, _, e, he, em⟩ := shp i x H4 (s3.trans s4) hx
        refine ⟨q', _, rfl, sq, rfl, _, _, rfl, _, _, rfl, rfl, rfl, _, rfl, _, e4, slineL (by rw [List.length_map, List.length_take, List.length_map]; omega), same_mut s4 nL, ?_⟩
        rw [upd_same, take_succ_map (f := V.str) (x := m) (by rw [List.getElem?_map, he, ← em]; rfl)]
      rintro H4 ⟨s4, e4⟩
      rw [List.take_of_length_le (by rw [List.length_map, lvs]; exact Nat.le_refl _)] at e4
      have nmk : ∀ x ∈ ds.map markOf, isNm x = true := fun x hx => by
        obtain ⟨e, he, rfl⟩ := List.mem_map.mp hx
        obtain ⟨j, hj⟩ := List.getElem?_of_mem he
        obtain ⟨m, l, rfl, nm, _⟩ := word_shape (hall j e hj)
        exact nm
      have s14 := s12.trans (s3.trans s4)
      refine ⟨L, ds.map markOf, rfl, .inl (.inl e4), by rw [List.length_map]; omega, nmk, fun hd H5 s5 => ?_, fun x hd cls dd v' H5 s5 ie rv' => q2 _ _ (by rw [hdue]; exact wd_dup hi hl hall hd) cls dd v' H5 (s14.trans s5) ie rv'⟩
      have s25 := s3.trans (s4.trans s5)
      have s05 := s12.trans s25
      refine ⟨_, rfl, p, xs, rfl, same_any s05 hp, by omega, fun ys r pm so nr => ?_⟩
      have s6 := s05.trans (same_new (o := .lst (ys.map V.str)) nr)
      have s26 := s25.trans (same_new (o := .lst (ys.map V.str)) nr)
      have er : (upd H5 r (.lst (ys.map V.str))) r = some (.lst (ys.map V.str)) := upd_same
      generalize upd H5 r (.lst (ys.map V.str)) = H6 at s6 s26 er ⊢
      have eb6 := s6 _ _ eb
      have nrb : r ≠ b := fun z => by rw [z] at er; rw [eb6] at er; cases er
      refine ⟨_, rfl, b, CB, dx, [], rfl, eb6, B.cl, B.na _ (by decide), by decide, ?_⟩
      have kS : KeepS H6 (upd H6 b (.ins CB dx (putF "_finds" (.ref r) []))) := KeepS.put eb6
      have keep : ∀ c o, c ≠ b → H c = some o → (upd H6 b (.ins CB dx (putF "_finds" (.ref r) []))) c = some o := fun c o n e => by rw [upd_ne n]; exact s6 _ _ e
      have et : (upd H6 b (.ins CB dx (putF "_finds" (.ref r) []))) b = some (.ins CB dx (putF "_finds" (.ref r) [])) := upd_same
      have er7 : (upd H6 b (.ins CB dx (putF "_finds" (.ref r) []))) r = some (.lst (ys.map V.str)) := by rw [upd_ne nrb]; exact er
      have hq7 := kS.lt (same_any s26 (.inr hq))
      have al7 := (al.to s26).ks kS
      generalize upd H6 b (.ins CB dx (putF "_finds" (.ref r) [])) = H7 at keep et er7 hq7 al7 ⊢
      refine ⟨_, rfl, t, vs, rfl, hq7, fun l nl => ?_⟩
      have nlb : l ≠ b := fun z => by rw [z, et] at nl; cases nl
      have et8 := kp (u := .lst vs) et nl
      refine ⟨_, rfl, b, CB, dx, _, rfl, et8, B.cl, B.na _ (by decide), by show 1 < 1000; decide, ?_⟩
      have al9 : DaAll K (upd (upd H7 l (.lst vs)) b (.ins CB dx (putF "_words" (.ref l) (putF "_finds" (.ref r) [])))) vs ds := (al7.to (same_new nl)).ks (KeepS.put et8)
      refine q1 (by rw [hdue]; exact wd_good hi hl hall hd) ys ds _ hi (by rw [hnx]; exact pm) so ⟨dx, r, l, vs, by rw [upd_same, put_two], ?_, ?_, al9⟩ fun c o n e => ?_
      · rw [upd_ne nrb]
        exact kp er7 nl
      · rw [upd_ne nlb]
        exact upd_same
      · rw [upd_ne n]
        exact kp (keep c o n e) nl
end
end Th
namespace Th
open PySem PySem.Spec PyProof.Rows L2
abbrev s_l_side : Stmt := topS 93
theorem sc_l_side : FnScope ["_law_p", "_law_q", "_law_x"] ["_law_p", "_law_q", "_law_x"] (defScope s_l_side) := ⟨rfl, rfl, rfl, by decide +kernel, rfl, by decide +kernel, by decide +kernel⟩
def sideV (xs zs : List Str) (x : Str) : V := if x ∉ xs ∧ x ∉ zs then .non else .int ((if x ∈ zs then 1 else 0) - (if x ∈ xs then 1 else 0))
def spSide (K : PySem.W.Frag) : Sp := fun vs H Q _ => ∃ (a b : Addr) (xs zs : List Str) (x : Str), vs = [.ref a, .ref b, .str x] ∧ SqT K H a (xs.map V.str) ∧ SqT K H b (zs.map V.str) ∧ Q (sideV xs zs x) H
section
variable {P : Program} {w : World} {K : PySem.W.Frag} {mg : Str → Option Value} {base : Heap} {CB : Addr}
theorem has_l_side (Z : Zs mg) (A : At K mg "_law_side" s_l_side ["_law_p", "_law_q", "_law_x"]) : Has P w K mg base "_law_side" s_l_side 1 ["_law_p", "_law_q", "_law_x"] (spSide K) := by
  obtain ⟨f, fd, F, mg1, bd⟩ := A
  refine ⟨f, fd, ?_, mg1, F.kp, bd, F⟩
  refine F.ok sc_l_side (fun vs H Q E h => ?_) (fun cdv A outer s H vs Q E hr h => ?_)
  · obtain ⟨a, b, xs, zs, x, rfl, _⟩ := h
    rfl
  · obtain ⟨a, b, xs, zs, x, rfl, ha, hb, q⟩ := h
    refine ⟨_, (pss_one (ps_ret (pe_ifExp (PW.pt (pw_and (pt_cmpR op_notIn_seq (pv 2) (pv 0) (by rfl)) (pw_and1 (pt_cmpR op_notIn_seq (pv 2) (pv 1) (by rfl))))) pe_non (pe_op op_sub (pe_ifExp (pt_cmpR op_in_seq (pv 2) (pv 1) (by rfl)) pe_int pe_int) (pe_ifExp (pt_cmpR op_in_seq (pv 2) (pv 0) (by rfl)) pe_int pe_int))))), ?_⟩
    refine ⟨_, rfl, _, rfl, a, _, rfl, .inr ha, rfl, flatS _, ?_⟩
    rw [if_pos rfl, inS]
    refine ⟨_, rfl, ite2 (fun m => ?_) (fun m => ?_)⟩
    · have m' : x ∉ xs := by simpa using m
      refine ⟨_, rfl, _, rfl, b, _, rfl, .inr hb, rfl, flatS _, ?_⟩
      rw [if_pos rfl, inS]
      refine ⟨_, rfl, ite2 (fun k => ?_) (fun k => ?_)⟩
      · have k' : x ∉ zs := by simpa using k
        have q1 := q
        unfold sideV at q1
        rw [if_pos ⟨m', k'⟩] at q1
        exact q1
      · have hno : ¬(x ∉ xs ∧ x ∉ zs) := fun z => k (by simpa using z.2)
        refine ⟨_, rfl, _, rfl, b, _, rfl, .inr hb, rfl, flatS _, ?_⟩
        rw [if_neg Bool.false_ne_true, inS]
        refine ⟨_, rfl, ite2 (fun k1 => ?_) (fun k1 => ?_)⟩
        all_goals
          refine ⟨_, rfl, _, rfl, a, _, rfl, .inr ha, rfl, flatS _, ?_⟩
          rw [if_neg Bool.false_ne_true, inS]
          refine ⟨_, rfl, ite2 (fun k2 => ?_) (fun k2 => ?_)⟩
          all_goals
            refine ⟨_, _, rfl, rfl, ?_⟩
            have q1 := q
            unfold sideV at q1
            rw [if_neg hno] at q1
            first | rw [if_pos (of_decide_eq_true k1)] at q1 | rw [if_neg (fun z => k1 (decide_eq_true z))] at q1
            first | rw [if_pos (of_decide_eq_true k2)] at q1 | rw [if_neg (fun z => k2 (decide_eq_true z))] at q1
            exact q1
    · have hno : ¬(x ∉ xs ∧ x ∉ zs) := fun z => m (by simpa using z.1)
      refine iteF ?_
      refine ⟨_, rfl, _, rfl, b, _, rfl, .inr hb, rfl, flatS _, ?_⟩
      rw [if_neg Bool.false_ne_true, inS]
      refine ⟨_, rfl, ite2 (fun k1 => ?_) (fun k1 => ?_)⟩
      all_goals
        refine ⟨_, rfl, _, rfl, a, _, rfl, .inr ha, rfl, flatS _, ?_⟩
        rw [if_neg Bool.false_ne_true, inS]
        refine ⟨_, rfl, ite2 (fun k2 => ?_) (fun k2 => ?_)⟩
        all_goals
          refine ⟨_, _, rfl, rfl, ?_⟩
          have q1 := q
          unfold sideV at q1
          rw [if_neg hno] at q1
          first | rw [if_pos (of_decide_eq_true k1)] at q1 | rw [if_neg (fun z => k1 (decide_eq_true z))] at q1
          first | rw [if_pos (of_decide_eq_true k2)] at q1 | rw [if_neg (fun z => k2 (decide_eq_true z))] at q1
          exact q1
end
end Th
namespace Th
open PySem PySem.Spec PyProof.Rows L2
abbrev s_p_common : Stmt := topS 27
theorem sc_p_common : FnScope ["one", "other", "name"] ["one", "other"] (defScope s_p_common) := ⟨rfl, rfl, rfl, by decide +kernel, rfl, by decide +kernel, by decide +kernel⟩
/-- the names of an order that a lot has, in a new tuple -/
def spCut (K : PySem.W.Frag) : Sp := fun vs H Q _ => ∃ (a b : Addr) (xs zs : List Str), vs = [.ref a, .ref b] ∧ SqT K H a (xs.map V.str) ∧ SqT K H b (zs.map V.str) ∧ xs.length ≤ 60 ∧
  ∀ r H', Same H H' → H r = none → H' r = some (.tup ((xs.filter fun x => decide (x ∈ zs)).map V.str)) → Q (.ref r) H'
theorem filter_step {p : Str → Bool} {xs : List Str} {i : Nat} {x : Str} (h : xs[i]? = some x) : (xs.take (i + 1)).filter p = (xs.take i).filter p ++ (if p x = true then [x] else []) := by
  rw [List.take_add_one, h, List.filter_append]
  cases hp : p x <;> simp [hp]
theorem filter_short {p : Str → Bool} {xs : List Str} {i n : Nat} (h : xs.length ≤ n) : (((xs.take i).filter p).map V.str).length ≤ n := by
  rw [List.length_map]
  have a := List.length_filter_le p (xs.take i)
  rw [List.length_take] at a
  omega
section
variable {P : Program} {w : World} {K : PySem.W.Frag} {mg : Str → Option Value} {base : Heap} {CB : Addr}
theorem has_p_common (Z : Zs mg) (A : At K mg "common" s_p_common ["one", "other"]) : Has P w K mg base "common" s_p_common 1 ["one", "other"] (spCut K) := by
  obtain ⟨f, fd, F, mg1, bd⟩ := A
  refine ⟨f, fd, ?_, mg1, F.kp, bd, F⟩
  refine F.ok sc_p_common (fun vs H Q E h => ?_) (fun cdv A outer s H vs Q E hr h => ?_)
  · obtain ⟨a, b, xs, zs, rfl, _⟩ := h
    rfl
  · obtain ⟨a, b, xs, zs, rfl, ha, hb, hl, q⟩ := h
    refine ⟨_, (pss_one (ps_ret (pe_callTy call_tuple_of (by rfl) Z.tuple_ (by decide +kernel) (pa_cons (pe_lc (own := [("name", 2)]) (g := gName 2) (by rfl) sc_p_common.nd (pi_tup (pv 0)) (blkOk_by (own := [("name", 2)]) (N := ["one", "other", "name"]) (sc := defScope s_p_common) (by decide +kernel)) (fun _ _ _ _ _ => pg_name (i := 2) sc_p_common.nd rfl (Or.inl rfl)) (fun _ _ _ _ _ => (pts_one (pt_cmpR (show OpR _ (compareOp .In) (rIn K false) from op_in_seq) (pv 2) (pv 1) (by rfl)))) (fun _ _ _ _ _ => (pv 2))) pa_nil)))), ?_⟩
    refine ⟨_, rfl, a, rfl, ⟨_, ha⟩, fun L nL => ?_⟩
    refine lc_tup (K := K) (a := a) (xs := xs.map V.str) (fun i H2 => Same H H2 ∧ H2 L = some (.lst (((xs.take i).filter fun x => decide (x ∈ zs)).map V.str))) ⟨same_new nL, upd_same⟩ (fun i H2 _ z => same_t z.1 ha) ?_ ?_
    · rintro i y H2 hi ⟨s2, e2⟩
      obtain ⟨x, hx, rfl⟩ := getmap hi
      refine ⟨rfl, _, rfl, _, rfl, b, _, rfl, .inr (same_t s2 hb), rfl, flatS zs, _, rfl, ?_⟩
      rw [inS]
      have step := filter_step (p := fun x => decide (x ∈ zs)) hx
      refine ite2 (fun hm => ?_) (fun hm => ?_)
      · refine ⟨_, rfl, _, e2, slineL (by have := filter_short (p := fun x => decide (x ∈ zs)) (i := i) hl; omega), same_mut s2 nL, ?_⟩
        rw [upd_same, step, if_pos (by simpa using hm), List.map_append]
        rfl
      · exact ⟨s2, by rw [e2, step, if_neg (by simpa using hm), List.append_nil]⟩
    · rintro H2 ⟨s2, e2⟩
      rw [List.length_map, List.take_length] at e2
      refine ⟨L, _, rfl, .inl ⟨.inl (.inl e2), fun r nr => ?_⟩⟩
      exact q r _ (s2.trans (same_new nr)) (s2.free nr) upd_same
end
end Th
namespace Th
open PySem PySem.Spec PyProof.Rows L2
abbrev s_l_both : Stmt := topS 89
theorem sc_l_both : FnScope ["_law_p", "_law_q", "_law_x"] ["_law_p", "_law_q"] (defScope s_l_both) := ⟨rfl, rfl, rfl, by decide +kernel, rfl, by decide +kernel, by decide +kernel⟩

section
variable {P : Program} {w : World} {K : PySem.W.Frag} {mg : Str → Option Value} {base : Heap} {CB : Addr}
theorem has_l_both (Z : Zs mg) (A : At K mg "_law_both" s_l_both ["_law_p", "_law_q"]) : Has P w K mg base "_law_both" s_l_both 1 ["_law_p", "_law_q"] (spCut K) := by
  obtain ⟨f, fd, F, mg1, bd⟩ := A
  refine ⟨f, fd, ?_, mg1, F.kp, bd, F⟩
  refine F.ok sc_l_both (fun vs H Q E h => ?_) (fun cdv A outer s H vs Q E hr h => ?_)
  · obtain ⟨a, b, xs, zs, rfl, _⟩ := h
    rfl
  · obtain ⟨a, b, xs, zs, rfl, ha, hb, hl, q⟩ := h
    refine ⟨_, (pss_one (ps_ret (pe_callTy call_tuple_of (by rfl) Z.tuple_ (by decide +kernel) (pa_cons (pe_lc (own := [("_law_x", 2)]) (g := gName 2) (by rfl) sc_l_both.nd (pi_tup (pv 0)) (blkOk_by (own := [("_law_x", 2)]) (N := ["_law_p", "_law_q", "_law_x"]) (sc := defScope s_l_both) (by decide +kernel)) (fun _ _ _ _ _ => pg_name (i := 2) sc_l_both.nd rfl (Or.inl rfl)) (fun _ _ _ _ _ => (pts_one (pt_cmpR (show OpR _ (compareOp .In) (rIn K false) from op_in_seq) (pv 2) (pv 1) (by rfl)))) (fun _ _ _ _ _ => (pv 2))) pa_nil)))), ?_⟩
    refine ⟨_, rfl, a, rfl, ⟨_, ha⟩, fun L nL => ?_⟩
    refine lc_tup (K := K) (a := a) (xs := xs.map V.str) (fun i H2 => Same H H2 ∧ H2 L = some (.lst (((xs.take i).filter fun x => decide (x ∈ zs)).map V.str))) ⟨same_new nL, upd_same⟩ (fun i H2 _ z => same_t z.1 ha) ?_ ?_
    · rintro i y H2 hi ⟨s2, e2⟩
      obtain ⟨x, hx, rfl⟩ := getmap hi
      refine ⟨rfl, _, rfl, _, rfl, b, _, rfl, .inr (same_t s2 hb), rfl, flatS zs, _, rfl, ?_⟩
      rw [inS]
      have step := filter_step (p := fun x => decide (x ∈ zs)) hx
      refine ite2 (fun hm => ?_) (fun hm => ?_)
      · refine ⟨_, rfl, _, e2, slineL (by have := filter_short (p := fun x => decide (x ∈ zs)) (i := i) hl; omega), same_mut s2 nL, ?_⟩
        rw [upd_same, step, if_pos (by simpa using hm), List.map_append]
        rfl
      · exact ⟨s2, by rw [e2, step, if_neg (by simpa using hm), List.append_nil]⟩
    · rintro H2 ⟨s2, e2⟩
      rw [List.length_map, List.take_length] at e2
      refine ⟨L, _, rfl, .inl ⟨.inl (.inl e2), fun r nr => ?_⟩⟩
      exact q r _ (s2.trans (same_new nr)) (s2.free nr) upd_same
end
end Th
namespace Th
open PySem PySem.Spec PyProof.Rows L2
abbrev s_p_rest : Stmt := topS 28
theorem sc_p_rest : FnScope ["one", "other", "name"] ["one", "other"] (defScope s_p_rest) := ⟨rfl, rfl, rfl, by decide +kernel, rfl, by decide +kernel, by decide +kernel⟩
/-- the names of a lot that another lacks, in a new tuple -/
def spRest (K : PySem.W.Frag) : Sp := fun vs H Q _ => ∃ (a b : Addr) (xs zs : List Str), vs = [.ref a, .ref b] ∧ SqT K H a (xs.map V.str) ∧ SqT K H b (zs.map V.str) ∧ xs.length ≤ 60 ∧
  ∀ r H', Same H H' → H r = none → H' r = some (.tup ((xs.filter fun x => !decide (x ∈ zs)).map V.str)) → Q (.ref r) H'
section
variable {P : Program} {w : World} {K : PySem.W.Frag} {mg : Str → Option Value} {base : Heap} {CB : Addr}
theorem has_p_rest (Z : Zs mg) (A : At K mg "rest" s_p_rest ["one", "other"]) : Has P w K mg base "rest" s_p_rest 1 ["one", "other"] (spRest K) := by
  obtain ⟨f, fd, F, mg1, bd⟩ := A
  refine ⟨f, fd, ?_, mg1, F.kp, bd, F⟩
  refine F.ok sc_p_rest (fun vs H Q E h => ?_) (fun cdv A outer s H vs Q E hr h => ?_)
  · obtain ⟨a, b, xs, zs, rfl, _⟩ := h
    rfl
  · obtain ⟨a, b, xs, zs, rfl, ha, hb, hl, q⟩ := h
    refine ⟨_, (pss_one (ps_ret (pe_callTy call_tuple_of (by rfl) Z.tuple_ (by decide +kernel) (pa_cons (pe_lc (own := [("name", 2)]) (g := gName 2) (by rfl) sc_p_rest.nd (pi_tup (pv 0)) (blkOk_by (own := [("name", 2)]) (N := ["one", "other", "name"]) (sc := defScope s_p_rest) (by decide +kernel)) (fun _ _ _ _ _ => pg_name (i := 2) sc_p_rest.nd rfl (Or.inl rfl)) (fun _ _ _ _ _ => (pts_one (pt_cmpR (show OpR _ (compareOp .NotIn) (rIn K true) from op_notIn_seq) (pv 2) (pv 1) (by rfl)))) (fun _ _ _ _ _ => (pv 2))) pa_nil)))), ?_⟩
    refine ⟨_, rfl, a, rfl, ⟨_, ha⟩, fun L nL => ?_⟩
    refine lc_tup (K := K) (a := a) (xs := xs.map V.str) (fun i H2 => Same H H2 ∧ H2 L = some (.lst (((xs.take i).filter fun x => !decide (x ∈ zs)).map V.str))) ⟨same_new nL, upd_same⟩ (fun i H2 _ z => same_t z.1 ha) ?_ ?_
    · rintro i y H2 hi ⟨s2, e2⟩
      obtain ⟨x, hx, rfl⟩ := getmap hi
      refine ⟨rfl, _, rfl, _, rfl, b, _, rfl, .inr (same_t s2 hb), rfl, flatS zs, _, rfl, ?_⟩
      rw [inS]
      have step := filter_step (p := fun x => !decide (x ∈ zs)) hx
      refine ite2 (fun hm => ?_) (fun hm => ?_)
      · refine ⟨_, rfl, _, e2, slineL (by have := filter_short (p := fun x => !decide (x ∈ zs)) (i := i) hl; omega), same_mut s2 nL, ?_⟩
        rw [upd_same, step, if_pos (by simpa using hm), List.map_append]
        rfl
      · exact ⟨s2, by rw [e2, step, if_neg (by simpa using hm), List.append_nil]⟩
    · rintro H2 ⟨s2, e2⟩
      rw [List.length_map, List.take_length] at e2
      refine ⟨L, _, rfl, .inl ⟨.inl (.inl e2), fun r nr => ?_⟩⟩
      exact q r _ (s2.trans (same_new nr)) (s2.free nr) upd_same
end
end Th
namespace Th
open PySem PySem.Spec PyProof.Rows L2
abbrev s_l_less : Stmt := topS 90
theorem sc_l_less : FnScope ["_law_p", "_law_q", "_law_x"] ["_law_p", "_law_q"] (defScope s_l_less) := ⟨rfl, rfl, rfl, by decide +kernel, rfl, by decide +kernel, by decide +kernel⟩

section
variable {P : Program} {w : World} {K : PySem.W.Frag} {mg : Str → Option Value} {base : Heap} {CB : Addr}
theorem has_l_less (Z : Zs mg) (A : At K mg "_law_less" s_l_less ["_law_p", "_law_q"]) : Has P w K mg base "_law_less" s_l_less 1 ["_law_p", "_law_q"] (spRest K) := by
  obtain ⟨f, fd, F, mg1, bd⟩ := A
  refine ⟨f, fd, ?_, mg1, F.kp, bd, F⟩
  refine F.ok sc_l_less (fun vs H Q E h => ?_) (fun cdv A outer s H vs Q E hr h => ?_)
  · obtain ⟨a, b, xs, zs, rfl, _⟩ := h
    rfl
  · obtain ⟨a, b, xs, zs, rfl, ha, hb, hl, q⟩ := h
    refine ⟨_, (pss_one (ps_ret (pe_callTy call_tuple_of (by rfl) Z.tuple_ (by decide +kernel) (pa_cons (pe_lc (own := [("_law_x", 2)]) (g := gName 2) (by rfl) sc_l_less.nd (pi_tup (pv 0)) (blkOk_by (own := [("_law_x", 2)]) (N := ["_law_p", "_law_q", "_law_x"]) (sc := defScope s_l_less) (by decide +kernel)) (fun _ _ _ _ _ => pg_name (i := 2) sc_l_less.nd rfl (Or.inl rfl)) (fun _ _ _ _ _ => (pts_one (pt_cmpR (show OpR _ (compareOp .NotIn) (rIn K true) from op_notIn_seq) (pv 2) (pv 1) (by rfl)))) (fun _ _ _ _ _ => (pv 2))) pa_nil)))), ?_⟩
    refine ⟨_, rfl, a, rfl, ⟨_, ha⟩, fun L nL => ?_⟩
    refine lc_tup (K := K) (a := a) (xs := xs.map V.str) (fun i H2 => Same H H2 ∧ H2 L = some (.lst (((xs.take i).filter fun x => !decide (x ∈ zs)).map V.str))) ⟨same_new nL, upd_same⟩ (fun i H2 _ z => same_t z.1 ha) ?_ ?_
    · rintro i y H2 hi ⟨s2, e2⟩
      obtain ⟨x, hx, rfl⟩ := getmap hi
      refine ⟨rfl, _, rfl, _, rfl, b, _, rfl, .inr (same_t s2 hb), rfl, flatS zs, _, rfl, ?_⟩
      rw [inS]
      have step := filter_step (p := fun x => !decide (x ∈ zs)) hx
      refine ite2 (fun hm => ?_) (fun hm => ?_)
      · refine ⟨_, rfl, _, e2, slineL (by have := filter_short (p := fun x => !decide (x ∈ zs)) (i := i) hl; omega), same_mut s2 nL, ?_⟩
        rw [upd_same, step, if_pos (by simpa using hm), List.map_append]
        rfl
      · exact ⟨s2, by rw [e2, step, if_neg (by simpa using hm), List.append_nil]⟩
    · rintro H2 ⟨s2, e2⟩
      rw [List.length_map, List.take_length] at e2
      refine ⟨L, _, rfl, .inl ⟨.inl (.inl e2), fun r nr => ?_⟩⟩
      exact q r _ (s2.trans (same_new nr)) (s2.free nr) upd_same
end
end Th
namespace Th
open PySem PySem.Spec PyProof.Rows L2
abbrev s_l_cross : Stmt := topS 91
theorem sc_l_cross : FnScope ["_law_p", "_law_q"] ["_law_p", "_law_q"] (defScope s_l_cross) := ⟨rfl, rfl, rfl, by decide +kernel, rfl, by decide +kernel, by decide +kernel⟩
/-- whether two lots overlap, by their parts -/
def spCross (K : PySem.W.Frag) : Sp := fun vs H Q _ => ∃ (a b : Addr) (xs zs : List Str), vs = [.ref a, .ref b] ∧ SqT K H a (xs.map V.str) ∧ SqT K H b (zs.map V.str) ∧ xs.length ≤ 60 ∧ zs.length ≤ 60 ∧ (∀ x ∈ xs, isNm x = true) ∧ (∀ x ∈ zs, isNm x = true) ∧
  ∀ (c : Bool) H', (c = true ↔ (¬ ∀ x ∈ xs, x ∉ zs) ∧ (¬ ∀ x ∈ xs, x ∈ zs) ∧ ¬ ∀ z ∈ zs, z ∈ xs) → Same H H' → Q (.bl c) H'
theorem fil_in {xs zs : List Str} : xs.filter (fun x => decide (x ∈ zs)) = [] ↔ ∀ x ∈ xs, x ∉ zs := by
  rw [List.filter_eq_nil_iff]
  exact ⟨fun h x hx m => h x hx (decide_eq_true m), fun h x hx m => h x hx (of_decide_eq_true m)⟩
theorem fil_out {xs zs : List Str} : xs.filter (fun x => !decide (x ∈ zs)) = [] ↔ ∀ x ∈ xs, x ∈ zs := by
  rw [List.filter_eq_nil_iff]
  refine ⟨fun h x hx => ?_, fun h x hx m => ?_⟩
  · have := h x hx
    simpa using this
  · have := h x hx
    simp [this] at m
theorem eqTE (gs : List Str) : PyData.eqv (.tuple (gs.map .str)) (.tuple []) = decide (gs = []) := by
  have e1 : PyData.eqv (.tuple (gs.map .str)) (.tuple []) = PyData.eqvAll (gs.map .str) ([].map .str) := by simp [PyData.eqv]
  rw [e1, eqv_strs]
section
variable {P : Program} {w : World} {K : PySem.W.Frag} {mg : Str → Option Value} {base : Heap} {CB : Addr}
theorem has_l_cross (Z : Zs mg) (A : At K mg "_law_cross" s_l_cross ["_law_p", "_law_q"]) (h_l_both : Has P w K mg base "_law_both" s_l_both 1 ["_law_p", "_law_q"] (spCut K)) (h_l_less : Has P w K mg base "_law_less" s_l_less 1 ["_law_p", "_law_q"] (spRest K)) : Has P w K mg base "_law_cross" s_l_cross 2 ["_law_p", "_law_q"] (spCross K) := by
  obtain ⟨f, fd, F, mg1, bd⟩ := A
  obtain ⟨f_l_both, fd_l_both, G_l_both, m_l_both, k_l_both, b_l_both, F_l_both⟩ := h_l_both
  obtain ⟨f_l_less, fd_l_less, G_l_less, m_l_less, k_l_less, b_l_less, F_l_less⟩ := h_l_less
  refine ⟨f, fd, ?_, mg1, F.kp, bd, F⟩
  refine F.ok sc_l_cross (fun vs H Q E h => ?_) (fun cdv A outer s H vs Q E hr h => ?_)
  · obtain ⟨a, b, xs, zs, rfl, _⟩ := h
    rfl
  · obtain ⟨a, b, xs, zs, rfl, ha, hb, hl, hlz, nx, nz, q⟩ := h
    refine ⟨_, (pss_one (ps_ret (pe_and (pe_cmpR (op_neD hr.units) (pe_call G_l_both (hr.mono (by decide)) (by rfl) m_l_both k_l_both b_l_both .nil pass0 (pa_cons (pv 0) (pa_cons (pv 1) pa_nil))) (pe_tup pa_nil) (nomark _)) (pe_and (pe_cmpR (op_neD hr.units) (pe_call G_l_less (hr.mono (by decide)) (by rfl) m_l_less k_l_less b_l_less .nil pass0 (pa_cons (pv 0) (pa_cons (pv 1) pa_nil))) (pe_tup pa_nil) (nomark _)) (pe_one (pe_cmpR (op_neD hr.units) (pe_call G_l_less (hr.mono (by decide)) (by rfl) m_l_less k_l_less b_l_less .nil pass0 (pa_cons (pv 1) (pa_cons (pv 0) pa_nil))) (pe_tup pa_nil) (nomark _))))))), ?_⟩
    have she : SeqAt.shaped (.tuple ([] : List PyData)) = true := by decide +kernel
    have shf : ∀ {ws : List Str} {p : Str → Bool}, (∀ x ∈ ws, isNm x = true) → ws.length ≤ 60 → SeqAt.shaped (.tuple ((ws.filter p).map PyData.str)) = true := fun {ws p} h1 h2 =>
      (lv_lot (n := 0) (fun x hx => h1 x (List.mem_filter.mp hx).1) (Nat.le_trans (List.length_filter_le _ _) h2)).shaped (by decide)
    refine ⟨_, rfl, _, rfl, a, b, xs, zs, rfl, ha, hb, hl, fun r1 H1 s1 n1 e1 => ?_⟩
    refine ⟨Nat.zero_le _, fun u1 nu1 => ?_⟩
    refine ⟨.tuple ((xs.filter fun x => decide (x ∈ zs)).map .str), .tuple [], (Da.newT (K := K) (kp e1 nu1) (DaAll.strs _)).dp, (Da.newT (K := K) upd_same .nil).dp, shf nx hl, she, ?_⟩
    rw [eqTE]
    have t1 := s1.trans (same_new (o := .tup []) nu1)
    generalize upd H1 u1 (.tup []) = H2 at t1 ⊢
    have ha2 := same_t t1 ha
    have hb2 := same_t t1 hb
    refine ⟨_, rfl, ite2 (fun z1 => ?_) (fun z1 => ?_)⟩
    · have f1 : ¬ ∀ x ∈ xs, x ∉ zs := fun z => by
        rw [decide_eq_true (fil_in.mpr z)] at z1
        cases z1
      refine ⟨_, rfl, _, rfl, a, b, xs, zs, rfl, ha2, hb2, hl, fun r2 H3 s3 n3 e3 => ?_⟩
      refine ⟨Nat.zero_le _, fun u2 nu2 => ?_⟩
      refine ⟨.tuple ((xs.filter fun x => !decide (x ∈ zs)).map .str), .tuple [], (Da.newT (K := K) (kp e3 nu2) (DaAll.strs _)).dp, (Da.newT (K := K) upd_same .nil).dp, shf nx hl, she, ?_⟩
      rw [eqTE]
      have t3 := t1.trans (s3.trans (same_new (o := .tup []) nu2))
      generalize upd H3 u2 (.tup []) = H4 at t3 ⊢
      have ha4 := same_t t3 ha
      have hb4 := same_t t3 hb
      refine ⟨_, rfl, ite2 (fun z2 => ?_) (fun z2 => ?_)⟩
      · have f2 : ¬ ∀ x ∈ xs, x ∈ zs := fun z => by
          rw [decide_eq_true (fil_out.mpr z)] at z2
          cases z2
        refine ⟨_, rfl, _, rfl, b, a, zs, xs, rfl, hb4, ha4, hlz, fun r3 H5 s5 n5 e5 => ?_⟩
        refine ⟨Nat.zero_le _, fun u3 nu3 => ?_⟩
        refine ⟨.tuple ((zs.filter fun x => !decide (x ∈ xs)).map .str), .tuple [], (Da.newT (K := K) (kp e5 nu3) (DaAll.strs _)).dp, (Da.newT (K := K) upd_same .nil).dp, shf nz hlz, she, ?_⟩
        rw [eqTE]
        refine q _ _ ?_ (t3.trans (s5.trans (same_new (o := .tup []) nu3)))
        rw [Bool.not_eq_true', decide_eq_false_iff_not, fil_out]
        exact ⟨fun z => ⟨f1, f2, z⟩, fun z => z.2.2⟩
      · refine q _ _ ⟨(fun z => by cases z), fun z => ?_⟩ t3
        have z2' : ¬ xs.filter (fun x => !decide (x ∈ zs)) = [] := fun e => z.2.1 (fil_out.mp e)
        exact absurd (by rw [decide_eq_false z2']; rfl) z2
    · refine q _ _ ⟨(fun z => by cases z), fun z => ?_⟩ t1
      have z1' : ¬ xs.filter (fun x => decide (x ∈ zs)) = [] := fun e => z.1 (fil_in.mp e)
      exact absurd (by rw [decide_eq_false z1']; rfl) z1
end
end Th
namespace Th
open PySem PySem.Spec PyProof.Rows L2
abbrev s_p_have_lots : Stmt := topS 59
theorem sc_p_have_lots : FnScope ["told", "statement"] ["told"] (defScope s_p_have_lots) := ⟨rfl, rfl, rfl, by decide +kernel, rfl, by decide +kernel, by decide +kernel⟩
/-- a judgement of a list of statements -/
def spSts (K : PySem.W.Frag) (j : List St → Bool) : Sp := fun vs H Q _ => ∃ (a : Addr) (us : List V) (ts : List St), vs = [.ref a] ∧ SqL K H a us ∧ DaAll K H us (ts.map stOf) ∧ ts.length ≤ 60 ∧ ∀ H', Same H H' → Q (.bl (j ts)) H'
section
variable {P : Program} {w : World} {K : PySem.W.Frag} {mg : Str → Option Value} {base : Heap} {CB : Addr}
theorem has_p_have_lots (Z : Zs mg) (A : At K mg "_have_lots" s_p_have_lots ["told"]) : Has P w K mg base "_have_lots" s_p_have_lots 1 ["told"] (spSts K fun ts => ts.all isLot) := by
  obtain ⟨f, fd, F, mg1, bd⟩ := A
  refine ⟨f, fd, ?_, mg1, F.kp, bd, F⟩
  refine F.ok sc_p_have_lots (fun vs H Q E h => ?_) (fun cdv A outer s H vs Q E hr h => ?_)
  · obtain ⟨a, us, ts, rfl, _⟩ := h
    rfl
  · obtain ⟨a, us, ts, rfl, ha, al, hl, q⟩ := h
    refine ⟨_, (pss_one (ps_ret (pe_callB (cr_all rfl) (by rfl) Z.all_ (by decide +kernel) (pa_cons (pe_lc (own := [("statement", 1)]) (g := gName 1) (by rfl) sc_p_have_lots.nd (pi_list (pv 0)) (blkOk_by (own := [("statement", 1)]) (N := ["told", "statement"]) (sc := defScope s_p_have_lots) (by decide +kernel)) (fun _ _ _ _ _ => pg_name (i := 1) sc_p_have_lots.nd rfl (Or.inl rfl)) (fun _ _ _ _ _ => pts_nil) (fun _ _ _ _ _ => (pe_cmpR op_eq (pe_ix (show IxR _ (rIxT K) from ix_tup) (pv 1) pe_int (fun _ _ => rfl)) pe_str (nomark _)))) pa_nil)))), ?_⟩
    have lu := al.len
    rw [List.length_map] at lu
    refine ⟨_, rfl, a, rfl, ⟨_, ha⟩, fun L nL => ?_⟩
    refine lc_list (K := K) (a := a) (xs := us) (fun i H2 => Same H H2 ∧ H2 L = some (.lst (((ts.take i).map isLot).map V.bl))) ⟨same_new nL, upd_same⟩ (fun i H2 _ z => z.1.seq ha) ?_ ?_
    · rintro i v H2 hi ⟨s2, e2⟩
      obtain ⟨d, hd, rd⟩ := (al.to s2).at hi
      rw [List.getElem?_map] at hd
      obtain ⟨s, hs, rfl⟩ := Option.map_eq_some_iff.mp hd
      obtain ⟨b, ws, rfl, hb, h0⟩ := rd.stH
      refine ⟨rfl, _, rfl, b, ws, 0, _, rfl, rfl, hb, atI_of (by decide) h0, rfl, ?_⟩
      rw [hd_lot]
      refine ⟨_, e2, slineL (by rw [List.length_map, List.length_map, List.length_take]; omega), same_mut s2 nL, ?_⟩
      rw [upd_same, take_succ_map hs, List.map_append]
      rfl
    · rintro H2 ⟨s2, e2⟩
      rw [lu, List.take_length] at e2
      refine ⟨L, _, rfl, .inl (.inl e2), ?_⟩
      have q1 := q H2 s2
      rw [List.all_map]
      exact q1
end
end Th
namespace Th
open PySem PySem.Spec PyProof.Rows L2
abbrev s_p_are_apart : Stmt := topS 23
theorem sc_p_are_apart : FnScope ["one", "other", "name"] ["one", "other"] (defScope s_p_are_apart) := ⟨rfl, rfl, rfl, by decide +kernel, rfl, by decide +kernel, by decide +kernel⟩
/-- whether two lots have no name in common -/
def spApart (K : PySem.W.Frag) : Sp := fun vs H Q _ => ∃ (a b : Addr) (xs zs : List Str), vs = [.ref a, .ref b] ∧ SqT K H a (xs.map V.str) ∧ (SqL K H b (zs.map V.str) ∨ SqT K H b (zs.map V.str)) ∧ xs.length ≤ 60 ∧
  ∀ (c : Bool) H', (c = true ↔ ∀ x ∈ xs, x ∉ zs) → Same H H' → Q (.bl c) H'
section
variable {P : Program} {w : World} {K : PySem.W.Frag} {mg : Str → Option Value} {base : Heap} {CB : Addr}
theorem has_p_are_apart (Z : Zs mg) (A : At K mg "are_apart" s_p_are_apart ["one", "other"]) : Has P w K mg base "are_apart" s_p_are_apart 1 ["one", "other"] (spApart K) := by
  obtain ⟨f, fd, F, mg1, bd⟩ := A
  refine ⟨f, fd, ?_, mg1, F.kp, bd, F⟩
  refine F.ok sc_p_are_apart (fun vs H Q E h => ?_) (fun cdv A outer s H vs Q E hr h => ?_)
  · obtain ⟨a, b, xs, zs, rfl, _⟩ := h
    rfl
  · obtain ⟨a, b, xs, zs, rfl, ha, hb, hl, q⟩ := h
    refine ⟨_, (pss_one (ps_ret (pe_not (pe_callB (cr_any rfl) (by rfl) Z.any_ (by decide +kernel) (pa_cons (pe_lc (own := [("name", 2)]) (g := gName 2) (by rfl) sc_p_are_apart.nd (pi_tup (pv 0)) (blkOk_by (own := [("name", 2)]) (N := ["one", "other", "name"]) (sc := defScope s_p_are_apart) (by decide +kernel)) (fun _ _ _ _ _ => pg_name (i := 2) sc_p_are_apart.nd rfl (Or.inl rfl)) (fun _ _ _ _ _ => pts_nil) (fun _ _ _ _ _ => (pe_cmpR (show OpR _ (compareOp .In) (rIn K false) from op_in_seq) (pv 2) (pv 1) (by rfl)))) pa_nil))))), ?_⟩
    refine ⟨_, rfl, a, rfl, ⟨_, ha⟩, fun L nL => ?_⟩
    refine lc_tup (K := K) (a := a) (xs := xs.map V.str) (fun i H2 => Same H H2 ∧ H2 L = some (.lst (((xs.take i).map fun x => decide (x ∈ zs)).map V.bl))) ⟨same_new nL, upd_same⟩ (fun i H2 _ z => same_t z.1 ha) ?_ ?_
    · rintro i y H2 hi ⟨s2, e2⟩
      obtain ⟨x, hx, rfl⟩ := getmap hi
      have hb2 : SqL K H2 b (zs.map V.str) ∨ SqT K H2 b (zs.map V.str) := hb.elim (fun z => .inl (s2.seq z)) (fun z => .inr (same_t s2 z))
      refine ⟨rfl, _, rfl, _, rfl, b, _, rfl, hb2, rfl, flatS zs, ?_⟩
      rw [if_neg Bool.false_ne_true, inS]
      refine ⟨_, e2, slineL (by rw [List.length_map, List.length_map, List.length_take]; omega), same_mut s2 nL, ?_⟩
      rw [upd_same, take_succ_map hx, List.map_append]
      rfl
    · rintro H2 ⟨s2, e2⟩
      rw [List.length_map, List.take_length] at e2
      refine ⟨L, _, rfl, .inl (.inl e2), ?_⟩
      refine ⟨_, rfl, q _ _ ?_ s2⟩
      rw [List.any_map, Bool.not_eq_true', List.any_eq_false]
      exact ⟨fun z x hx m => z x hx (decide_eq_true m), fun z x hx m => z x hx (of_decide_eq_true m)⟩
end
end Th
namespace Th
open PySem PySem.Spec PyProof.Rows L2
abbrev s_p_overlap : Stmt := topS 24
theorem sc_p_overlap : FnScope ["one", "other"] ["one", "other"] (defScope s_p_overlap) := ⟨rfl, rfl, rfl, by decide +kernel, rfl, by decide +kernel, by decide +kernel⟩
/-- whether two lots overlap -/
def spOver (K : PySem.W.Frag) : Sp := fun vs H Q _ => ∃ (a b : Addr) (xs zs : List Str), vs = [.ref a, .ref b] ∧ SqT K H a (xs.map V.str) ∧ SqT K H b (zs.map V.str) ∧ xs.length ≤ 60 ∧ zs.length ≤ 60 ∧
  ∀ (c : Bool) H', (c = true ↔ (¬ ∀ x ∈ xs, x ∉ zs) ∧ (¬ ∀ x ∈ xs, x ∈ zs) ∧ ¬ ∀ z ∈ zs, z ∈ xs) → Same H H' → Q (.bl c) H'
section
variable {P : Program} {w : World} {K : PySem.W.Frag} {mg : Str → Option Value} {base : Heap} {CB : Addr}
theorem has_p_overlap (Z : Zs mg) (A : At K mg "overlap" s_p_overlap ["one", "other"]) (h_p_are_apart : Has P w K mg base "are_apart" s_p_are_apart 1 ["one", "other"] (spApart K)) (h_p_is_within : Has P w K mg base "is_within" s_p_is_within 1 ["one", "other"] (spWithin K)) : Has P w K mg base "overlap" s_p_overlap 2 ["one", "other"] (spOver K) := by
  obtain ⟨f, fd, F, mg1, bd⟩ := A
  obtain ⟨f_p_are_apart, fd_p_are_apart, G_p_are_apart, m_p_are_apart, k_p_are_apart, b_p_are_apart, F_p_are_apart⟩ := h_p_are_apart
  obtain ⟨f_p_is_within, fd_p_is_within, G_p_is_within, m_p_is_within, k_p_is_within, b_p_is_within, F_p_is_within⟩ := h_p_is_within
  refine ⟨f, fd, ?_, mg1, F.kp, bd, F⟩
  refine F.ok sc_p_overlap (fun vs H Q E h => ?_) (fun cdv A outer s H vs Q E hr h => ?_)
  · obtain ⟨a, b, xs, zs, rfl, _⟩ := h
    rfl
  · obtain ⟨a, b, xs, zs, rfl, ha, hb, hl, hlz, q⟩ := h
    refine ⟨_, (pss_one (ps_ret (pe_and (pe_not (pe_call G_p_are_apart (hr.mono (by decide)) (by rfl) m_p_are_apart k_p_are_apart b_p_are_apart .nil pass0 (pa_cons (pv 0) (pa_cons (pv 1) pa_nil)))) (pe_and (pe_not (pe_call G_p_is_within (hr.mono (by decide)) (by rfl) m_p_is_within k_p_is_within b_p_is_within .nil pass0 (pa_cons (pv 0) (pa_cons (pv 1) pa_nil)))) (pe_one (pe_not (pe_call G_p_is_within (hr.mono (by decide)) (by rfl) m_p_is_within k_p_is_within b_p_is_within .nil pass0 (pa_cons (pv 1) (pa_cons (pv 0) pa_nil))))))))), ?_⟩
    refine ⟨_, rfl, _, rfl, a, b, xs, zs, rfl, ha, .inr hb, hl, fun c1 H1 h1 s1 => ?_⟩
    have ha1 := same_t s1 ha
    have hb1 := same_t s1 hb
    have fin : ∀ (c : Bool) (H' : Hp), (c = true ↔ (¬ ∀ x ∈ xs, x ∉ zs) ∧ (¬ ∀ x ∈ xs, x ∈ zs) ∧ ¬ ∀ z ∈ zs, z ∈ xs) → Same H H' → Q (.bl c) H' := q
    refine ⟨_, rfl, _, rfl, ite2 (fun e1 => ?_) (fun e1 => ?_)⟩
    · have n1 : c1 = false := by simpa using e1
      have f1 : ¬ ∀ x ∈ xs, x ∉ zs := fun z => by rw [h1.mpr z] at n1; cases n1
      refine ⟨_, rfl, _, rfl, a, b, xs, zs, rfl, ha1, .inr hb1, hl, fun c2 H2 h2 s2 => ⟨_, rfl, _, rfl, ite2 (fun e2 => ?_) (fun e2 => ?_)⟩⟩
      · have n2 : c2 = false := by simpa using e2
        have f2 : ¬ ∀ x ∈ xs, x ∈ zs := fun z => by rw [h2.mpr z] at n2; cases n2
        refine ⟨_, rfl, _, rfl, b, a, zs, xs, rfl, same_t s2 hb1, .inr (same_t s2 ha1), hlz, fun c3 H3 h3 s3 => ⟨_, rfl, ?_⟩⟩
        refine fin _ _ ?_ ((s1.trans s2).trans s3)
        constructor
        · intro z
          have n3 : c3 = false := by simpa using z
          exact ⟨f1, f2, fun z => by rw [h3.mpr z] at n3; cases n3⟩
        · rintro ⟨_, _, f3⟩
          cases c3 with
          | false => rfl
          | true => exact absurd (h3.mp rfl) f3
      · have n2 : c2 = true := by simpa using e2
        refine fin _ _ ⟨fun z => ?_, fun z => absurd (h2.mp n2) z.2.1⟩ (s1.trans s2)
        cases z
    · have n1 : c1 = true := by simpa using e1
      refine fin _ _ ⟨fun z => ?_, fun z => absurd (h1.mp n1) z.1⟩ s1
      cases z
end
end Th
namespace Th
open PySem PySem.Spec PyProof.Rows L2
abbrev s_p_have_overlap : Stmt := topS 61
theorem sc_p_have_overlap : FnScope ["told"] ["told"] (defScope s_p_have_overlap) := ⟨rfl, rfl, rfl, by decide +kernel, rfl, by decide +kernel, by decide +kernel⟩
def spHaveO (K : PySem.W.Frag) : Sp := fun vs H Q _ => ∃ (a : Addr) (us : List V) (s0 s1 : St) (r : List St), vs = [.ref a] ∧ SqL K H a us ∧ DaAll K H us ((s0 :: s1 :: r).map stOf) ∧ okSt s0 ∧ okSt s1 ∧ ∀ H', Same H H' → Q (.bl (ovS s0 s1)) H'
section
variable {P : Program} {w : World} {K : PySem.W.Frag} {mg : Str → Option Value} {base : Heap} {CB : Addr}
theorem has_p_have_overlap (Z : Zs mg) (A : At K mg "_have_overlap" s_p_have_overlap ["told"]) (h_p_have_lots : Has P w K mg base "_have_lots" s_p_have_lots 1 ["told"] (spSts K fun ts => ts.all isLot)) (h_p_overlap : Has P w K mg base "overlap" s_p_overlap 2 ["one", "other"] (spOver K)) : Has P w K mg base "_have_overlap" s_p_have_overlap 3 ["told"] (spHaveO K) := by
  obtain ⟨f, fd, F, mg1, bd⟩ := A
  obtain ⟨f_p_have_lots, fd_p_have_lots, G_p_have_lots, m_p_have_lots, k_p_have_lots, b_p_have_lots, F_p_have_lots⟩ := h_p_have_lots
  obtain ⟨f_p_overlap, fd_p_overlap, G_p_overlap, m_p_overlap, k_p_overlap, b_p_overlap, F_p_overlap⟩ := h_p_overlap
  refine ⟨f, fd, ?_, mg1, F.kp, bd, F⟩
  refine F.ok sc_p_have_overlap (fun vs H Q E h => ?_) (fun cdv A outer s H vs Q E hr h => ?_)
  · obtain ⟨a, us, s0, s1, r, rfl, _⟩ := h
    rfl
  · obtain ⟨a, us, s0, s1, r, rfl, ha, al, ok0, ok1, q⟩ := h
    refine ⟨_, (pss_one (ps_ret (pe_and (pe_call G_p_have_lots (hr.mono (by decide)) (by rfl) m_p_have_lots k_p_have_lots b_p_have_lots .nil pass0 (pa_cons (pe_slice sl_list (pv 0) po_none (po_some pe_int)) pa_nil)) (pe_one (pe_call G_p_overlap (hr.mono (by decide)) (by rfl) m_p_overlap k_p_overlap b_p_overlap .nil pass0 (pa_cons (pe_ix ix_tup (pe_ix ix_list (pv 0) pe_int (fun _ _ => rfl)) pe_int (fun _ _ => rfl)) (pa_cons (pe_ix ix_tup (pe_ix ix_list (pv 0) pe_int (fun _ _ => rfl)) pe_int (fun _ _ => rfl)) pa_nil))))))), ?_⟩
    refine ⟨_, rfl, 2, rfl, a, us, rfl, ha, fun R nR => ?_⟩
    have sR := same_new (o := .lst (cutV us none (some 2))) nR
    have ec : cutV us none (some 2) = us.take 2 := cut_to _ (by decide)
    rw [ec] at sR ⊢
    have e1 := upd_same (H := H) (a := R) (o := .lst (us.take 2))
    generalize upd H R (.lst (us.take 2)) = H1 at sR e1 ⊢
    refine ⟨R, us.take 2, [s0, s1], rfl, .inl (.inl e1), (al.to sR).take 2, by show 2 ≤ 60; decide, fun H2 t2 => ⟨_, rfl, ?_⟩⟩
    have s02 := sR.trans t2
    cases s0 with
    | lot xs =>
      cases s1 with
      | lot zs =>
        refine iteT ?_
        obtain ⟨v0, g0, r0⟩ := (al.to s02).at' (i := 0) (d := stOf (.lot xs)) rfl
        obtain ⟨v1, g1, r1⟩ := (al.to s02).at' (i := 1) (d := stOf (.lot zs)) rfl
        obtain ⟨b0, c0, rfl, hb0, hc0⟩ := r0.stL
        obtain ⟨b1, c1, rfl, hb1, hc1⟩ := r1.stL
        refine ⟨_, rfl, a, us, 0, _, rfl, rfl, s02.seq ha, atI_of (by decide) g0, b0, _, 1, .ref c0, rfl, rfl, hb0, rfl, ?_⟩
        refine ⟨_, rfl, a, us, 1, _, rfl, rfl, s02.seq ha, atI_of (by decide) g1, b1, _, 1, .ref c1, rfl, rfl, hb1, rfl, ?_⟩
        exact ⟨c0, c1, xs, zs, rfl, hc0, hc1, ok0.2.2.2, ok1.2.2.2, fun c H3 hc t3 => by rw [ovB_iff hc]; exact q H3 (s02.trans t3)⟩
      | _ => exact iteF (q H2 s02)
    | _ => exact iteF (q H2 s02)
end
end Th
namespace Th
open PySem PySem.Spec PyProof.Rows L2
abbrev s_p_are_befores : Stmt := topS 60
theorem sc_p_are_befores : FnScope ["told", "statement"] ["told"] (defScope s_p_are_befores) := ⟨rfl, rfl, rfl, by decide +kernel, rfl, by decide +kernel, by decide +kernel⟩

section
variable {P : Program} {w : World} {K : PySem.W.Frag} {mg : Str → Option Value} {base : Heap} {CB : Addr}
theorem has_p_are_befores (Z : Zs mg) (A : At K mg "_are_befores" s_p_are_befores ["told"]) : Has P w K mg base "_are_befores" s_p_are_befores 1 ["told"] (spSts K fun ts => ts.all isBef) := by
  obtain ⟨f, fd, F, mg1, bd⟩ := A
  refine ⟨f, fd, ?_, mg1, F.kp, bd, F⟩
  refine F.ok sc_p_are_befores (fun vs H Q E h => ?_) (fun cdv A outer s H vs Q E hr h => ?_)
  · obtain ⟨a, us, ts, rfl, _⟩ := h
    rfl
  · obtain ⟨a, us, ts, rfl, ha, al, hl, q⟩ := h
    refine ⟨_, (pss_one (ps_ret (pe_callB (cr_all rfl) (by rfl) Z.all_ (by decide +kernel) (pa_cons (pe_lc (own := [("statement", 1)]) (g := gName 1) (by rfl) sc_p_are_befores.nd (pi_list (pv 0)) (blkOk_by (own := [("statement", 1)]) (N := ["told", "statement"]) (sc := defScope s_p_are_befores) (by decide +kernel)) (fun _ _ _ _ _ => pg_name (i := 1) sc_p_are_befores.nd rfl (Or.inl rfl)) (fun _ _ _ _ _ => pts_nil) (fun _ _ _ _ _ => (pe_cmpR op_eq (pe_ix (show IxR _ (rIxT K) from ix_tup) (pv 1) pe_int (fun _ _ => rfl)) pe_str (nomark _)))) pa_nil)))), ?_⟩
    have lu := al.len
    rw [List.length_map] at lu
    refine ⟨_, rfl, a, rfl, ⟨_, ha⟩, fun L nL => ?_⟩
    refine lc_list (K := K) (a := a) (xs := us) (fun i H2 => Same H H2 ∧ H2 L = some (.lst (((ts.take i).map isBef).map V.bl))) ⟨same_new nL, upd_same⟩ (fun i H2 _ z => z.1.seq ha) ?_ ?_
    · rintro i v H2 hi ⟨s2, e2⟩
      obtain ⟨d, hd, rd⟩ := (al.to s2).at hi
      rw [List.getElem?_map] at hd
      obtain ⟨s, hs, rfl⟩ := Option.map_eq_some_iff.mp hd
      obtain ⟨b, ws, rfl, hb, h0⟩ := rd.stH
      refine ⟨rfl, _, rfl, b, ws, 0, _, rfl, rfl, hb, atI_of (by decide) h0, rfl, ?_⟩
      rw [hd_bef]
      refine ⟨_, e2, slineL (by rw [List.length_map, List.length_map, List.length_take]; omega), same_mut s2 nL, ?_⟩
      rw [upd_same, take_succ_map hs, List.map_append]
      rfl
    · rintro H2 ⟨s2, e2⟩
      rw [lu, List.take_length] at e2
      refine ⟨L, _, rfl, .inl (.inl e2), ?_⟩
      have q1 := q H2 s2
      rw [List.all_map]
      exact q1
end
end Th
namespace Th
open PySem PySem.Spec PyProof.Rows L2
abbrev s_p_part_of : Stmt := topS 67
theorem sc_p_part_of : FnScope ["name", "one", "other"] ["name", "one", "other"] (defScope s_p_part_of) := ⟨rfl, rfl, rfl, by decide +kernel, rfl, by decide +kernel, by decide +kernel⟩
/-- the part of two lots in which a name is -/
def partB (xs zs : List Str) (x : Str) : Int := if x ∈ xs then (if x ∈ zs then 1 else 0) else if x ∈ zs then 2 else -1
def spPartOf (K : PySem.W.Frag) : Sp := fun vs H Q _ => ∃ (x : Str) (a b : Addr) (xs zs : List Str), vs = [.str x, .ref a, .ref b] ∧ SqT K H a (xs.map V.str) ∧ SqT K H b (zs.map V.str) ∧ Q (.int (partB xs zs x)) H
section
variable {P : Program} {w : World} {K : PySem.W.Frag} {mg : Str → Option Value} {base : Heap} {CB : Addr}
theorem has_p_part_of (Z : Zs mg) (A : At K mg "_part_of" s_p_part_of ["name", "one", "other"]) : Has P w K mg base "_part_of" s_p_part_of 1 ["name", "one", "other"] (spPartOf K) := by
  obtain ⟨f, fd, F, mg1, bd⟩ := A
  refine ⟨f, fd, ?_, mg1, F.kp, bd, F⟩
  refine F.ok sc_p_part_of (fun vs H Q E h => ?_) (fun cdv A outer s H vs Q E hr h => ?_)
  · obtain ⟨x, a, b, xs, zs, rfl, _⟩ := h
    rfl
  · obtain ⟨x, a, b, xs, zs, rfl, ha, hb, q⟩ := h
    refine ⟨_, (pss_cons (ps_if (pt_cmpR op_in_seq (pv 0) (pv 1) (by rfl)) (pss_one (ps_ret (pe_ifExp (pt_cmpR op_in_seq (pv 0) (pv 2) (by rfl)) pe_int pe_int))) pss_nil) (pss_one (ps_ret (pe_ifExp (pt_cmpR op_in_seq (pv 0) (pv 2) (by rfl)) pe_int (pe_un un_neg pe_int))))), ?_⟩
    refine ⟨_, rfl, _, rfl, a, _, rfl, .inr ha, rfl, flatS _, ?_⟩
    rw [if_neg Bool.false_ne_true, inS]
    unfold partB at q
    refine ⟨_, rfl, ite2 (fun m => ?_) (fun m => ?_)⟩
    · have m' : x ∈ xs := by simpa using m
      rw [if_pos m'] at q
      refine ⟨_, rfl, _, rfl, b, _, rfl, .inr hb, rfl, flatS _, ?_⟩
      rw [if_neg Bool.false_ne_true, inS]
      refine ⟨_, rfl, ite2 (fun k => ?_) (fun k => ?_)⟩
      · have k' : x ∈ zs := by simpa using k
        rw [if_pos k'] at q
        exact q
      · have k' : x ∉ zs := by simpa using k
        rw [if_neg k'] at q
        exact q
    · have m' : x ∉ xs := by simpa using m
      rw [if_neg m'] at q
      refine ⟨_, rfl, _, rfl, b, _, rfl, .inr hb, rfl, flatS _, ?_⟩
      rw [if_neg Bool.false_ne_true, inS]
      refine ⟨_, rfl, ite2 (fun k => ?_) (fun k => ?_)⟩
      · have k' : x ∈ zs := by simpa using k
        rw [if_pos k'] at q
        exact q
      · have k' : x ∉ zs := by simpa using k
        rw [if_neg k'] at q
        exact ⟨1, rfl, q⟩
end
end Th
namespace Th
open PySem PySem.Spec PyProof.Rows L2
abbrev s_p_is_across : Stmt := topS 66
theorem sc_p_is_across : FnScope ["statement", "told", "parts", "name", "u", "v", "x", "y"] ["statement", "told"] (defScope s_p_is_across) := ⟨rfl, rfl, rfl, by decide +kernel, rfl, by decide +kernel, by decide +kernel⟩
/-- what two overlapping lots say of two pairs of finds -/
def acrossB (xs zs : List Str) (u v x y : Str) : Bool :=
  !((([u, v, x, y].map (partB xs zs)).any fun p => decide (p = -1))) && (decide (partB xs zs u ≠ partB xs zs v) && (decide (partB xs zs x ≠ partB xs zs y) && (decide (partB xs zs u < partB xs zs v) == decide (partB xs zs x < partB xs zs y))))
def acrossR : St → List St → Bool
  | .bef x y, [.lot xs, .lot zs, .bef u v] => ovB xs zs && acrossB xs zs u v x y
  | _, _ => false
theorem across_no {st s0 s1 s2 : St} (h : ovS s0 s1 = false ∨ [s2, st].all isBef = false) : acrossR st [s0, s1, s2] = false := by
  cases st <;> cases s0 <;> cases s1 <;> cases s2 <;> first | rfl | skip
  rcases h with h | h
  · show (ovB _ _ && _) = false
    rw [show ovB _ _ = false from h]
    rfl
  · cases h
section
variable {P : Program} {w : World} {K : PySem.W.Frag} {mg : Str → Option Value} {base : Heap} {CB : Addr}
theorem has_p_is_across (Z : Zs mg) (A : At K mg "_is_across" s_p_is_across ["statement", "told"]) (h_p_have_overlap : Has P w K mg base "_have_overlap" s_p_have_overlap 3 ["told"] (spHaveO K)) (h_p_are_befores : Has P w K mg base "_are_befores" s_p_are_befores 1 ["told"] (spSts K fun ts => ts.all isBef)) (h_p_part_of : Has P w K mg base "_part_of" s_p_part_of 1 ["name", "one", "other"] (spPartOf K)) : Has P w K mg base "_is_across" s_p_is_across 4 ["statement", "told"] (spDrawn K 3 acrossR) := by
  obtain ⟨f, fd, F, mg1, bd⟩ := A
  obtain ⟨f_p_have_overlap, fd_p_have_overlap, G_p_have_overlap, m_p_have_overlap, k_p_have_overlap, b_p_have_overlap, F_p_have_overlap⟩ := h_p_have_overlap
  obtain ⟨f_p_are_befores, fd_p_are_befores, G_p_are_befores, m_p_are_befores, k_p_are_befores, b_p_are_befores, F_p_are_befores⟩ := h_p_are_befores
  obtain ⟨f_p_part_of, fd_p_part_of, G_p_part_of, m_p_part_of, k_p_part_of, b_p_part_of, F_p_part_of⟩ := h_p_part_of
  refine ⟨f, fd, ?_, mg1, F.kp, bd, F⟩
  refine F.ok sc_p_is_across (fun vs H Q E h => ?_) (fun cdv A outer s H vs Q E hr h => ?_)
  · obtain ⟨v, a, us, st, ts, rfl, _⟩ := h
    rfl
  · obtain ⟨v, a, us, st, ts, rfl, rv, okst, ha, al, okts, hl, q⟩ := h
    refine ⟨_, (pss_cons (ps_if (PW.pt (pw_or (pt_not (pt_val (pe_call G_p_have_overlap (hr.mono (by decide)) (by rfl) m_p_have_overlap k_p_have_overlap b_p_have_overlap .nil pass0 (pa_cons (pv 1) pa_nil)))) (pw_or1 (pt_not (pt_val (pe_call G_p_are_befores (hr.mono (by decide)) (by rfl) m_p_are_befores k_p_are_befores b_p_are_befores .nil pass0 (pa_cons (pe_lst (pa_cons (pe_ix ix_list (pv 1) pe_int (fun _ _ => rfl)) (pa_cons (pv 0) pa_nil))) pa_nil))))))) (pss_one (ps_ret pe_bl)) pss_nil) (pss_cons (ps_setLc (i := 2) (own := [("name", 3)]) (g := gName 3) (by rfl) sc_p_is_across.nd rfl rfl (sw_true rfl rfl rfl (by decide +kernel)) (pi_tup (pe_op op_catD (pe_slice sl_tupD (pe_ix ix_list (pv 1) pe_int (fun _ _ => rfl)) (po_some pe_int) po_none) (pe_slice sl_tupD (pv 0) (po_some pe_int) po_none))) (blkOk_by (own := [("name", 3)]) (N := ["statement", "told", "parts", "name", "u", "v", "x", "y"]) (sc := defScope s_p_is_across) (by decide +kernel)) (fun _ _ _ _ _ => pg_name (i := 3) sc_p_is_across.nd rfl (Or.inl rfl)) (fun _ _ _ _ _ => pts_nil) (fun _ _ _ _ _ => (pe_call G_p_part_of (hr.mono (by decide)) (by rfl) m_p_part_of k_p_part_of b_p_part_of .nil pass0 (pa_cons (pv 3) (pa_cons (pe_ix (show IxR _ (rIxT K) from ix_tup) (pe_ix (show IxR _ (rIxL K) from ix_list) (pv 1) pe_int (fun _ _ => rfl)) pe_int (fun _ _ => rfl)) (pa_cons (pe_ix (show IxR _ (rIxT K) from ix_tup) (pe_ix (show IxR _ (rIxL K) from ix_list) (pv 1) pe_int (fun _ _ => rfl)) pe_int (fun _ _ => rfl)) pa_nil)))))) (pss_cons (ps_if (pt_cmpR op_in_seq (pe_un un_neg pe_int) (pv 2) (by rfl)) (pss_one (ps_ret pe_bl)) pss_nil) (pss_cons (ps_asg (pv 2) (pg_lst (by rfl) (pgs_cons (pg_name (i := 4) sc_p_is_across.nd rfl (Or.inl rfl)) (pgs_cons (pg_name (i := 5) sc_p_is_across.nd rfl (Or.inl rfl)) (pgs_cons (pg_name (i := 6) sc_p_is_across.nd rfl (Or.inl rfl)) (pgs_cons (pg_name (i := 7) sc_p_is_across.nd rfl (Or.inl rfl)) pgs_nil)))))) (pss_one (ps_ret (pe_and (pe_cmpR op_ne (pv 4) (pv 5) (nomark _)) (pe_and (pe_cmpR op_ne (pv 6) (pv 7) (nomark _)) (pe_one (pe_cmpR op_eq (pe_cmpR op_lt (pv 4) (pv 5) (nomark _)) (pe_cmpR op_lt (pv 6) (pv 7) (nomark _)) (nomark _))))))))))), ?_⟩
    obtain ⟨s0, s1, s2, rfl⟩ := len3 hl
    have ok0 := okts s0 (by simp)
    have ok1 := okts s1 (by simp)
    refine ⟨_, rfl, a, us, s0, s1, [s2], rfl, ha, al, ok0, ok1, fun H1 t1 => ⟨_, rfl, ite2 (fun z => ?_) (fun z => ?_)⟩⟩
    · have q1 := q H1 t1
      rw [across_no (.inl (by simpa using z))] at q1
      exact q1
    obtain ⟨xs, zs, rfl, rfl, hov⟩ := ov_lots (s0 := s0) (s1 := s1) (by simpa using z)
    obtain ⟨v2, g2, r2⟩ := (al.to t1).at' (i := 2) (d := stOf s2) rfl
    refine ⟨_, rfl, a, us, 2, v2, rfl, rfl, t1.seq ha, atI_of (by decide) g2, _, rfl, by show 2 ≤ sizeLine; decide, fun L nL => ?_⟩
    have sL := same_new (o := .lst [v2, v]) nL
    refine ⟨L, [v2, v], [s2, st], rfl, .inl (.inl upd_same), .cons (r2.to sL) (.cons ((rv.to t1).to sL) .nil), by show 2 ≤ 60; decide, fun H2 t2 => ⟨_, rfl, ite2 (fun z2 => ?_) (fun z2 => ?_)⟩⟩
    · have q1 := q H2 (t1.trans (sL.trans t2))
      rw [across_no (.inr (by have z3 : (![s2, st].all isBef) = true := z2; rw [Bool.not_eq_true'] at z3; exact z3))] at q1
      exact q1
    obtain ⟨u, w', x, y, rfl, rfl⟩ := two_bef (s := s2) (t := st) (by cases h : [s2, st].all isBef with
      | true => rfl
      | false => exact absurd (show (![s2, st].all isBef) = true by rw [h]; rfl) z2)
    have t02 := t1.trans (sL.trans t2)
    obtain ⟨v0, g0, r0⟩ := al.at' (i := 0) (d := stOf (.lot xs)) rfl
    obtain ⟨v1, g1, r1⟩ := al.at' (i := 1) (d := stOf (.lot zs)) rfl
    obtain ⟨b0, c0, rfl, hb0, hc0⟩ := r0.stL
    obtain ⟨b1, c1, rfl, hb1, hc1⟩ := r1.stL
    obtain ⟨b2, rfl, tu⟩ := r2.stBT
    obtain ⟨bs, rfl, tv⟩ := rv.stBT
    have tu2 := (tu.to sL).to t2
    have ecut : ∀ p q : Str, cutV [V.str "before", .str p, .str q] (some 1) none = [.str p, .str q] := fun p q => rfl
    refine ⟨_, rfl, a, us, 2, _, rfl, rfl, t02.seq ha, atI_of (by decide) g2, 1, rfl, b2, _, rfl, tu2, fun R1 H3 t3 _ e3 => ?_⟩
    refine ⟨_, rfl, 1, rfl, bs, _, rfl, tv.to (t02.trans t3), fun R2 H4 t4 _ e4 => ?_⟩
    refine ⟨R1, R2, _, _, rfl, rfl, e3.to t4, e4, by rw [ecut, ecut]; show 2 + 2 ≤ sizeLine; decide, fun R H5 t5 _ e5 => ?_⟩
    rw [ecut, ecut] at e5
    have t05 := t02.trans (t3.trans (t4.trans t5))
    have e6 : SqT K H5 R ([u, w', x, y].map V.str) := e5.1
    refine ⟨R, rfl, ⟨_, e6⟩, fun L2 nL2 => ?_⟩
    refine lc_tup (K := K) (a := R) (xs := [u, w', x, y].map V.str) (fun i H' => Same H5 H' ∧ H' L2 = some (.lst ((([u, w', x, y].map (partB xs zs)).take i).map V.int))) ⟨same_new nL2, upd_same⟩ (fun i H' _ z => same_t z.1 e6) ?_ ?_
    · rintro i nv H' hi ⟨s6, e7⟩
      obtain ⟨nm, hn, rfl⟩ := getmap hi
      have s06 := t05.trans s6
      refine ⟨rfl, _, rfl, _, rfl, a, us, 0, _, rfl, rfl, s06.seq ha, atI_of (by decide) g0, b0, _, 1, .ref c0, rfl, rfl, same_t s06 hb0, rfl, ?_⟩
      refine ⟨_, rfl, a, us, 1, _, rfl, rfl, s06.seq ha, atI_of (by decide) g1, b1, _, 1, .ref c1, rfl, rfl, same_t s06 hb1, rfl, ?_⟩
      refine ⟨nm, c0, c1, xs, zs, rfl, same_t s06 hc0, same_t s06 hc1, _, e7, slineL (by rw [List.length_map, List.length_take, List.length_map]; have := lt_of_get hn; simp at this ⊢; omega), same_mut s6 nL2, ?_⟩
      rw [upd_same, take_succ_map (f := V.int) (x := partB xs zs nm) (by rw [List.getElem?_map, hn]; rfl)]
    rintro H6 ⟨s6, e7⟩
    rw [show ([u, w', x, y].map V.str).length = ([u, w', x, y].map (partB xs zs)).length from rfl, List.take_length] at e7
    have s06 := t05.trans s6
    have q6 := q H6 s06
    have hdue : acrossR (.bef x y) [.lot xs, .lot zs, .bef u w'] = acrossB xs zs u w' x y := by
      show (ovB xs zs && _) = _
      rw [hov, Bool.true_and]
    rw [hdue] at q6
    unfold acrossB at q6
    refine ⟨1, rfl, _, rfl, L2, _, rfl, .inl (.inl (.inl e7)), rfl, flatI _, ?_⟩
    rw [if_neg Bool.false_ne_true, inI]
    refine ⟨_, rfl, ite2 (fun hm => ?_) (fun hm => ?_)⟩
    · rw [hm, Bool.not_true, Bool.false_and] at q6
      exact q6
    rw [Bool.eq_false_iff.mpr hm, Bool.not_false, Bool.true_and] at q6
    clear hm
    have e8 : H6 L2 = some (.lst [.int (partB xs zs u), .int (partB xs zs w'), .int (partB xs zs x), .int (partB xs zs y)]) := e7
    generalize partB xs zs u = pu at e8 q6
    generalize partB xs zs w' = pv at e8 q6
    generalize partB xs zs x = px at e8 q6
    generalize partB xs zs y = py at e8 q6
    refine ⟨_, rfl, L2, _, rfl, .inl (.inl e8), rfl, _, _, rfl, _, _, rfl, _, _, rfl, _, _, rfl, rfl, ?_⟩
    have key : ∀ c : Bool, (decide (pu ≠ pv) && (decide (px ≠ py) && (decide (pu < pv) == decide (px < py)))) = c → Q (.bl c) H6 := fun c e => e ▸ q6
    clear q6 hdue
    refine ⟨_, rfl, _, rfl, rfl, _, rfl, ite2 (fun h1 => ?_) (fun h1 => ?_)⟩
    · refine ⟨_, rfl, _, rfl, rfl, _, rfl, ite2 (fun h2 => ?_) (fun h2 => ?_)⟩
      · refine ⟨_, rfl, _, rfl, pu, pv, rfl, rfl, _, rfl, _, rfl, px, py, rfl, rfl, rfl, key _ ?_⟩
        have n1 : pu ≠ pv := by simpa using h1
        have n2 : px ≠ py := by simpa using h2
        rw [decide_eq_true n1, decide_eq_true n2, Bool.true_and, Bool.true_and]
        show (decide (pu < pv) == decide (px < py)) = decide (V.bl (decide (pu < pv)) = V.bl (decide (px < py)))
        generalize decide (pu < pv) = c1
        generalize decide (px < py) = c2
        cases c1 <;> cases c2 <;> decide +kernel
      · refine key _ ?_
        have n2 : px = py := by simpa using h2
        simp [n2]
    · refine key _ ?_
      have n1 : pu = pv := by simpa using h1
      simp [n1]
end
end Th
namespace Th
open PySem PySem.Spec PyProof.Rows L2
abbrev s_l_across_due : Stmt := topS 94
theorem sc_l_across_due : FnScope ["_law_p", "_law_q", "_law_u", "_law_v", "_law_x", "_law_y", "_law_sides", "_law_z"] ["_law_p", "_law_q", "_law_u", "_law_v", "_law_x", "_law_y"] (defScope s_l_across_due) := ⟨rfl, rfl, rfl, by decide +kernel, rfl, by decide +kernel, by decide +kernel⟩
theorem side_part (xs zs : List Str) (x : Str) : sideV xs zs x = if partB xs zs x = -1 then .non else .int (partB xs zs x - 1) := by
  unfold sideV partB
  by_cases h1 : x ∈ xs <;> by_cases h2 : x ∈ zs <;> simp [h1, h2]
theorem part_rng (xs zs : List Str) (x : Str) : partB xs zs x = -1 ∨ partB xs zs x = 0 ∨ partB xs zs x = 1 ∨ partB xs zs x = 2 := by
  unfold partB
  by_cases h1 : x ∈ xs <;> by_cases h2 : x ∈ zs <;> simp [h1, h2]
theorem part_cmp {p q r s : Int} (hp : p = 0 ∨ p = 1 ∨ p = 2) (hq : q = 0 ∨ q = 1 ∨ q = 2) (hr : r = 0 ∨ r = 1 ∨ r = 2) (hs : s = 0 ∨ s = 1 ∨ s = 2) :
    decide ((q - 1 - (p - 1)) * (s - 1 - (r - 1)) > 0) = (decide (p ≠ q) && (decide (r ≠ s) && (decide (p < q) == decide (r < s)))) := by
  rcases hp with rfl | rfl | rfl <;> rcases hq with rfl | rfl | rfl <;> rcases hr with rfl | rfl | rfl <;> rcases hs with rfl | rfl | rfl <;> decide
theorem cmul_small {i j : Int} (hi : -2 ≤ i) (hi' : i ≤ 2) : CMul i j := .inl ⟨by have : (-(2 ^ 64) : Int) < -2 := by decide
                                                                                  omega, by have : (2 : Int) < 2 ^ 64 := by decide
                                                                                            omega⟩
def spAcDue (K : PySem.W.Frag) : Sp := fun vs H Q _ => ∃ (a b : Addr) (xs zs : List Str) (u v x y : Str), vs = [.ref a, .ref b, .str u, .str v, .str x, .str y] ∧ SqT K H a (xs.map V.str) ∧ SqT K H b (zs.map V.str) ∧ xs.length ≤ 60 ∧ zs.length ≤ 60 ∧ (∀ x ∈ xs, isNm x = true) ∧ (∀ x ∈ zs, isNm x = true) ∧ ∀ H', Same H H' → Q (.bl (ovB xs zs && acrossB xs zs u v x y)) H'
section
variable {P : Program} {w : World} {K : PySem.W.Frag} {mg : Str → Option Value} {base : Heap} {CB : Addr}
theorem has_l_across_due (Z : Zs mg) (A : At K mg "_law_across_due" s_l_across_due ["_law_p", "_law_q", "_law_u", "_law_v", "_law_x", "_law_y"]) (h_l_side : Has P w K mg base "_law_side" s_l_side 1 ["_law_p", "_law_q", "_law_x"] (spSide K)) (h_l_cross : Has P w K mg base "_law_cross" s_l_cross 2 ["_law_p", "_law_q"] (spCross K)) : Has P w K mg base "_law_across_due" s_l_across_due 3 ["_law_p", "_law_q", "_law_u", "_law_v", "_law_x", "_law_y"] (spAcDue K) := by
  obtain ⟨f, fd, F, mg1, bd⟩ := A
  obtain ⟨f_l_side, fd_l_side, G_l_side, m_l_side, k_l_side, b_l_side, F_l_side⟩ := h_l_side
  obtain ⟨f_l_cross, fd_l_cross, G_l_cross, m_l_cross, k_l_cross, b_l_cross, F_l_cross⟩ := h_l_cross
  refine ⟨f, fd, ?_, mg1, F.kp, bd, F⟩
  refine F.ok sc_l_across_due (fun vs H Q E h => ?_) (fun cdv A outer s H vs Q E hr h => ?_)
  · obtain ⟨a, b, xs, zs, u, v, x, y, rfl, _⟩ := h
    rfl
  · obtain ⟨a, b, xs, zs, u, v, x, y, rfl, ha, hb, hl, hlz, nx, nz, q⟩ := h
    refine ⟨_, (pss_cons (ps_setLc (i := 6) (own := [("_law_z", 7)]) (g := gName 7) (by rfl) sc_l_across_due.nd rfl rfl (sw_true rfl rfl rfl (by decide +kernel)) (pi_tup (pe_tup (pa_cons (pv 2) (pa_cons (pv 3) (pa_cons (pv 4) (pa_cons (pv 5) pa_nil)))))) (blkOk_by (own := [("_law_z", 7)]) (N := ["_law_p", "_law_q", "_law_u", "_law_v", "_law_x", "_law_y", "_law_sides", "_law_z"]) (sc := defScope s_l_across_due) (by decide +kernel)) (fun _ _ _ _ _ => pg_name (i := 7) sc_l_across_due.nd rfl (Or.inl rfl)) (fun _ _ _ _ _ => pts_nil) (fun _ _ _ _ _ => (pe_call G_l_side (hr.mono (by decide)) (by rfl) m_l_side k_l_side b_l_side .nil pass0 (pa_cons (pv 0) (pa_cons (pv 1) (pa_cons (pv 7) pa_nil)))))) (pss_cons (ps_if (PW.pt (pw_or (pt_not (pt_val (pe_call G_l_cross (hr.mono (by decide)) (by rfl) m_l_cross k_l_cross b_l_cross .nil pass0 (pa_cons (pv 0) (pa_cons (pv 1) pa_nil))))) (pw_or1 (pt_cmpR op_in_seq pe_non (pv 6) (by rfl))))) (pss_one (ps_ret pe_bl)) pss_nil) (pss_one (ps_ret (pe_cmpR op_gt (pe_op op_mul (pe_op op_sub (pe_ix ix_list (pv 6) pe_int (fun _ _ => rfl)) (pe_ix ix_list (pv 6) pe_int (fun _ _ => rfl))) (pe_op op_sub (pe_ix ix_list (pv 6) pe_int (fun _ _ => rfl)) (pe_ix ix_list (pv 6) pe_int (fun _ _ => rfl)))) pe_int (nomark _)))))), ?_⟩
    refine ⟨_, rfl, _, rfl, _, rfl, _, rfl, by show 4 ≤ sizeLine; decide, fun R nR => ?_⟩
    have sR := same_new (o := .tup [.str u, .str v, .str x, .str y]) nR
    have eR : SqT K (upd H R (.tup [.str u, .str v, .str x, .str y])) R ([u, v, x, y].map V.str) := .inl (.inl upd_same)
    generalize upd H R (.tup [.str u, .str v, .str x, .str y]) = H1 at sR eR ⊢
    refine ⟨R, rfl, ⟨_, eR⟩, fun L nL => ?_⟩
    refine lc_tup (K := K) (a := R) (xs := [u, v, x, y].map V.str) (fun i H' => Same H1 H' ∧ H' L = some (.lst (([u, v, x, y].map (sideV xs zs)).take i))) ⟨same_new nL, upd_same⟩ (fun i H' _ z => same_t z.1 eR) ?_ ?_
    · rintro i nv H' hi ⟨s6, e7⟩
      obtain ⟨nm, hn, rfl⟩ := getmap hi
      have s06 := sR.trans s6
      refine ⟨rfl, _, rfl, _, rfl, _, rfl, a, b, xs, zs, nm, rfl, same_t s06 ha, same_t s06 hb, _, e7, slineL (by rw [List.length_take, List.length_map]; exact Nat.lt_of_le_of_lt (Nat.min_le_right _ _) (by show 4 < 100000; decide)), same_mut s6 nL, ?_⟩
      rw [upd_same, List.take_add_one, List.getElem?_map, hn]
      rfl
    rintro H2 ⟨s2, e2⟩
    rw [show ([u, v, x, y].map V.str).length = ([u, v, x, y].map (sideV xs zs)).length from rfl, List.take_length] at e2
    have s02 := sR.trans s2
    refine ⟨_, rfl, _, rfl, a, b, xs, zs, rfl, same_t s02 ha, same_t s02 hb, hl, hlz, nx, nz, fun c H3 hc s3 => ⟨_, rfl, ite2 (fun z => ?_) (fun z => ?_)⟩⟩
    · have q1 := q H3 (s02.trans s3)
      rw [← ovB_iff hc, show c = false by simpa using z, Bool.false_and] at q1
      exact q1
    have hct : c = true := by simpa using z
    have s03 := s02.trans s3
    have e3 := s3 _ _ e2
    have q1 := q H3 s03
    rw [← ovB_iff hc, hct, Bool.true_and] at q1
    clear z hct
    have hfl : ([u, v, x, y].map (sideV xs zs)).all flatV = true := by
      rw [List.all_map, List.all_eq_true]
      intro w _
      show flatV (sideV xs zs w) = true
      rw [side_part]
      by_cases h : partB xs zs w = -1
      · rw [if_pos h]; rfl
      · rw [if_neg h]; rfl
    have hin : inV .non ([u, v, x, y].map (sideV xs zs)) = ([u, v, x, y].map (partB xs zs)).any fun p => decide (p = -1) := by
      unfold inV
      rw [List.any_map, List.any_map]
      congr 1
      funext w
      show eqV (sideV xs zs w) .non = decide (partB xs zs w = -1)
      rw [side_part]
      by_cases h : partB xs zs w = -1
      · rw [if_pos h, decide_eq_true h]; rfl
      · rw [if_neg h, decide_eq_false h]; rfl
    refine ⟨_, rfl, L, _, rfl, .inl (.inl (.inl e3)), rfl, hfl, ?_⟩
    rw [if_neg Bool.false_ne_true, hin]
    unfold acrossB at q1
    refine ⟨_, rfl, ite2 (fun hm => ?_) (fun hm => ?_)⟩
    · rw [hm, Bool.not_true, Bool.false_and] at q1
      exact q1
    have hm' := Bool.eq_false_iff.mpr hm
    rw [hm', Bool.not_false, Bool.true_and] at q1
    have nn : ∀ w ∈ [u, v, x, y], partB xs zs w = 0 ∨ partB xs zs w = 1 ∨ partB xs zs w = 2 := fun w hw => by
      rcases part_rng xs zs w with h | h
      · rw [List.any_map] at hm'
        exact absurd (decide_eq_true h) (by
          have := List.any_eq_false.mp hm' w hw
          exact this)
      · exact h
    have sv : ∀ w ∈ [u, v, x, y], sideV xs zs w = .int (partB xs zs w - 1) := fun w hw => by
      rw [side_part, if_neg (by have := nn w hw; omega)]
    have e4 : H3 L = some (.lst [.int (partB xs zs u - 1), .int (partB xs zs v - 1), .int (partB xs zs x - 1), .int (partB xs zs y - 1)]) := by
      rw [e3, show [u, v, x, y].map (sideV xs zs) = [sideV xs zs u, sideV xs zs v, sideV xs zs x, sideV xs zs y] from rfl, sv u (by simp), sv v (by simp), sv x (by simp), sv y (by simp)]
    have pu := nn u (by simp)
    have pv' := nn v (by simp)
    have px := nn x (by simp)
    have py := nn y (by simp)
    rw [← part_cmp pu pv' px py] at q1
    generalize partB xs zs u = p1 at e4 q1 pu
    generalize partB xs zs v = p2 at e4 q1 pv'
    generalize partB xs zs x = p3 at e4 q1 px
    generalize partB xs zs y = p4 at e4 q1 py
    clear nn sv hm hm' hin hfl e3 e2
    have at4 : ∀ (i : Nat) (w : V), [V.int (p1 - 1), .int (p2 - 1), .int (p3 - 1), .int (p4 - 1)][i]? = some w → atI [V.int (p1 - 1), .int (p2 - 1), .int (p3 - 1), .int (p4 - 1)] (i : Int) = some w := fun i w h => atI_nat h
    have sq : SqL K H3 L [V.int (p1 - 1), .int (p2 - 1), .int (p3 - 1), .int (p4 - 1)] := .inl (.inl e4)
    refine ⟨_, rfl, L, _, 1, _, rfl, rfl, sq, at4 1 _ rfl, _, rfl, L, _, 0, _, rfl, rfl, sq, at4 0 _ rfl, p2 - 1, p1 - 1, rfl, rfl, ?_⟩
    refine ⟨_, rfl, L, _, 3, _, rfl, rfl, sq, at4 3 _ rfl, _, rfl, L, _, 2, _, rfl, rfl, sq, at4 2 _ rfl, p4 - 1, p3 - 1, rfl, rfl, ?_⟩
    refine ⟨p2 - 1 - (p1 - 1), p4 - 1 - (p3 - 1), rfl, rfl, cmul_small (by omega) (by omega), ?_⟩
    exact ⟨_, _, rfl, rfl, q1⟩
end
end Th
namespace Th
open PySem PySem.Spec PyProof.Rows L2
abbrev s_l_apart_due : Stmt := topS 95
theorem sc_l_apart_due : FnScope ["_law_p", "_law_q", "_law_u", "_law_v", "_law_x", "_law_y", "_law_z"] ["_law_p", "_law_q", "_law_u", "_law_v", "_law_x", "_law_y"] (defScope s_l_apart_due) := ⟨rfl, rfl, rfl, by decide +kernel, rfl, by decide +kernel, by decide +kernel⟩
def spApDue (K : PySem.W.Frag) : Sp := fun vs H Q _ => ∃ (a b : Addr) (xs zs : List Str) (u v x y : Str), vs = [.ref a, .ref b, .str u, .str v, .str x, .str y] ∧ SqT K H a (xs.map V.str) ∧ SqT K H b (zs.map V.str) ∧ xs.length ≤ 60 ∧ (∀ x ∈ xs, isNm x = true) ∧ ∀ H', Same H H' → Q (.bl ((xs.all fun x => !decide (x ∈ zs)) && ([(u, v), (x, y)].all fun p => decide (p.1 ∈ xs) && decide (p.2 ∈ zs)))) H'
section
variable {P : Program} {w : World} {K : PySem.W.Frag} {mg : Str → Option Value} {base : Heap} {CB : Addr}
theorem has_l_apart_due (Z : Zs mg) (A : At K mg "_law_apart_due" s_l_apart_due ["_law_p", "_law_q", "_law_u", "_law_v", "_law_x", "_law_y"]) : Has P w K mg base "_law_apart_due" s_l_apart_due 1 ["_law_p", "_law_q", "_law_u", "_law_v", "_law_x", "_law_y"] (spApDue K) := by
  obtain ⟨f, fd, F, mg1, bd⟩ := A
  refine ⟨f, fd, ?_, mg1, F.kp, bd, F⟩
  refine F.ok sc_l_apart_due (fun vs H Q E h => ?_) (fun cdv A outer s H vs Q E hr h => ?_)
  · obtain ⟨a, b, xs, zs, u, v, x, y, rfl, _⟩ := h
    rfl
  · obtain ⟨a, b, xs, zs, u, v, x, y, rfl, ha, hb, hl, nm, q⟩ := h
    refine ⟨_, (pss_one (ps_ret (pe_and (pe_cmpR (op_eqD hr.units) (pe_lc (own := [("_law_z", 6)]) (g := gName 6) (by rfl) sc_l_apart_due.nd (pi_tup (pv 0)) (blkOk_by (own := [("_law_z", 6)]) (N := ["_law_p", "_law_q", "_law_u", "_law_v", "_law_x", "_law_y", "_law_z"]) (sc := defScope s_l_apart_due) (by decide +kernel)) (fun _ _ _ _ _ => pg_name (i := 6) sc_l_apart_due.nd rfl (Or.inl rfl)) (fun _ _ _ _ _ => (pts_one (pt_cmpR (show OpR _ (compareOp .In) (rIn K false) from op_in_seq) (pv 6) (pv 1) (by rfl)))) (fun _ _ _ _ _ => (pv 6))) (pe_lst pa_nil) (nomark _)) (pe_and (pe_cmpR op_in_seq (pv 2) (pv 0) (by rfl)) (pe_and (pe_cmpR op_in_seq (pv 4) (pv 0) (by rfl)) (pe_and (pe_cmpR op_in_seq (pv 3) (pv 1) (by rfl)) (pe_one (pe_cmpR op_in_seq (pv 5) (pv 1) (by rfl))))))))), ?_⟩
    refine ⟨_, rfl, a, rfl, ⟨_, ha⟩, fun L nL => ?_⟩
    refine lc_tup (K := K) (a := a) (xs := xs.map V.str) (fun i H2 => Same H H2 ∧ H2 L = some (.lst (((xs.take i).filter fun x => decide (x ∈ zs)).map V.str))) ⟨same_new nL, upd_same⟩ (fun i H2 _ z => same_t z.1 ha) ?_ ?_
    · rintro i w H2 hi ⟨s2, e2⟩
      obtain ⟨z, hz, rfl⟩ := getmap hi
      have stp := filterStep (p := fun x : Str => decide (x ∈ zs)) hz
      refine ⟨rfl, _, rfl, _, rfl, b, _, rfl, .inr (same_t s2 hb), rfl, flatS _, ?_⟩
      rw [if_neg Bool.false_ne_true, inS]
      refine ⟨_, rfl, ite2 (fun m => ?_) (fun m => ?_)⟩
      · refine ⟨_, rfl, _, e2, slineL (by rw [List.length_map]; have := List.length_filter_le (fun x : Str => decide (x ∈ zs)) (xs.take i); rw [List.length_take] at this; omega), same_mut s2 nL, ?_⟩
        rw [upd_same, stp, if_pos m, List.map_append]
        rfl
      · exact ⟨s2, by rw [e2, stp, if_neg m, List.append_nil]⟩
    rintro H2 ⟨s2, e2⟩
    rw [List.length_map, List.take_length] at e2
    refine ⟨by show 0 ≤ sizeLine; decide, fun Z nZ => ?_⟩
    have sZ := same_new (o := .lst []) nZ
    have eZ := upd_same (H := H2) (a := Z) (o := .lst [])
    generalize upd H2 Z (.lst []) = H3 at sZ eZ ⊢
    have s3 := s2.trans sZ
    have nf : ∀ w ∈ xs.filter (fun x => decide (x ∈ zs)), isNm w = true := fun w hw => nm w (List.mem_filter.mp hw).1
    have lf : (xs.filter fun x => decide (x ∈ zs)).length ≤ 60 := Nat.le_trans (List.length_filter_le _ _) hl
    refine ⟨.list ((xs.filter fun x => decide (x ∈ zs)).map .str), .list [], .lst (.inl (.inl (sZ _ _ e2))) (DaAll.dp _ _ (DaAll.strs _)), .lst (.inl (.inl eZ)) .nil, (lv_lotL (n := 2) nf lf).shaped (by decide), (lv_of 1 _ (by decide +kernel) : Lv 1 (.list [])).shaped (by decide), _, rfl, ?_⟩
    have ee : PyData.eqv (.list ((xs.filter fun x => decide (x ∈ zs)).map .str)) (.list []) = (xs.all fun x => !decide (x ∈ zs)) := by
      have z : PyData.eqv (.list ((xs.filter fun x => decide (x ∈ zs)).map .str)) (.list []) = PyData.eqvAll ((xs.filter fun x => decide (x ∈ zs)).map .str) (([] : List Str).map .str) := by simp [PyData.eqv]
      rw [z, eqv_strs, Bool.eq_iff_iff, decide_eq_true_iff, List.filter_eq_nil_iff, List.all_eq_true]
      exact ⟨fun h x hx => by simpa using h x hx, fun h x hx => by simpa using h x hx⟩
    rw [ee]
    have key : ∀ c : Bool, ((xs.all fun x => !decide (x ∈ zs)) && ([(u, v), (x, y)].all fun p => decide (p.1 ∈ xs) && decide (p.2 ∈ zs))) = c → Q (.bl c) H3 := fun c e => e ▸ q H3 s3
    have ex : ∀ l : List (Str × Str), l = [(u, v), (x, y)] → (l.all fun p => decide (p.1 ∈ xs) && decide (p.2 ∈ zs)) = ((decide (u ∈ xs) && decide (v ∈ zs)) && ((decide (x ∈ xs) && decide (y ∈ zs)) && true)) := fun l e => by rw [e]; rfl
    rw [ex _ rfl] at key
    have ha3 := same_t s3 ha
    have hb3 := same_t s3 hb
    refine ite2 (fun m0 => ?_) (fun m0 => ?_)
    · rw [m0] at key
      refine ⟨_, rfl, _, rfl, a, _, rfl, .inr ha3, rfl, flatS _, ?_⟩
      rw [if_neg Bool.false_ne_true, inS]
      refine ⟨_, rfl, ite2 (fun m1 => ?_) (fun m1 => ?_)⟩
      · rw [m1] at key
        refine ⟨_, rfl, _, rfl, a, _, rfl, .inr ha3, rfl, flatS _, ?_⟩
        rw [if_neg Bool.false_ne_true, inS]
        refine ⟨_, rfl, ite2 (fun m2 => ?_) (fun m2 => ?_)⟩
        · rw [m2] at key
          refine ⟨_, rfl, _, rfl, b, _, rfl, .inr hb3, rfl, flatS _, ?_⟩
          rw [if_neg Bool.false_ne_true, inS]
          refine ⟨_, rfl, ite2 (fun m3 => ?_) (fun m3 => ?_)⟩
          · rw [m3] at key
            refine ⟨_, rfl, _, rfl, b, _, rfl, .inr hb3, rfl, flatS _, ?_⟩
            rw [if_neg Bool.false_ne_true, inS]
            exact key _ (by simp)
          · exact key _ (by rw [Bool.eq_false_iff.mpr m3]; simp)
        · exact key _ (by rw [Bool.eq_false_iff.mpr m2]; simp)
      · exact key _ (by rw [Bool.eq_false_iff.mpr m1]; simp)
    · exact key _ (by rw [Bool.eq_false_iff.mpr m0]; simp)
end
end Th
namespace Th
open PySem PySem.Spec PyProof.Rows L2
abbrev s_p_is_fact : Stmt := topS 39
theorem sc_p_is_fact : FnScope ["value"] ["value"] (defScope s_p_is_fact) := ⟨rfl, rfl, rfl, by decide +kernel, rfl, by decide +kernel, by decide +kernel⟩
/-- how many names stand behind a fact's word -/
def manyN (z : Str) : Option Nat := if z = "before" then some 2 else if z = "first" then some 1 else if z = "last" then some 1 else none
/-- a datum is a fact -/
def factD : PyData → Bool
  | .tuple (.str h :: r) => match manyN h with
    | some m => r.length == m && r.all nmD
    | none => false
  | _ => false
theorem factD_str (h : Str) (r : List PyData) : factD (.tuple (.str h :: r)) = match manyN h with
    | some m => r.length == m && r.all nmD
    | none => false := rfl
def ManyOk (kvs : List (Str × Value)) : Prop := ∀ z, (∃ m t, manyN z = some m ∧ lookE kvs z = some (.int (m : Int) t)) ∨ (manyN z = none ∧ lookE kvs z = none)
theorem many_mk (t1 t2 t3 : Tok) : ManyOk [("before", .int 2 t1), ("first", .int 1 t2), ("last", .int 1 t3)] := by
  intro z
  by_cases h1 : z = "before"
  · subst h1
    exact .inl ⟨2, t1, by rw [manyN, if_pos rfl], by rw [lookE, if_pos rfl]; rfl⟩
  · by_cases h2 : z = "first"
    · subst h2
      exact .inl ⟨1, t2, by rw [manyN, if_neg h1, if_pos rfl], by rw [lookE, if_neg (fun e => h1 e.symm), lookE, if_pos rfl]; rfl⟩
    · by_cases h3 : z = "last"
      · subst h3
        exact .inl ⟨1, t3, by rw [manyN, if_neg h1, if_neg h2, if_pos rfl], by rw [lookE, if_neg (fun e => h1 e.symm), lookE, if_neg (fun e => h2 e.symm), lookE, if_pos rfl]; rfl⟩
      · exact .inr ⟨by rw [manyN, if_neg h1, if_neg h2, if_neg h3], by rw [lookE, if_neg (fun e => h1 e.symm), lookE, if_neg (fun e => h2 e.symm), lookE, if_neg (fun e => h3 e.symm), lookE]⟩
theorem cut1P (xs : List V) : cutV xs (some 1) none = xs.drop 1 := by
  unfold cutV
  rw [show HT.sIx xs.length 0 (some 1) = min 1 xs.length from HT.sIx_nat xs.length 0 1, HT.sIx_none]
  cases xs with
  | nil => rfl
  | cons x r =>
    rw [show min 1 (x :: r).length = 1 by rw [List.length_cons]; omega]
    show (List.take ((x :: r).length - 1) r) = r
    rw [List.length_cons, Nat.add_sub_cancel]
    exact List.take_length
section
variable {P : Program} {w : World} {K : PySem.W.Frag} {mg : Str → Option Value} {base : Heap} {CB : Addr}
theorem has_p_is_fact (Z : Zs mg) (gMN : ∃ (d : Addr) (es : Array DictEntry) (n : Nat) (kvs : List (Str × Value)), mg "_MANY_NAMES" = some (.ref d) ∧ KDict K w d es n ∧ (∀ z, PySem.W.nsIn K d z = some (lookE kvs z)) ∧ ManyOk kvs) (A : At K mg "is_fact" s_p_is_fact ["value"]) (h_p_are_names : Has P w K mg base "are_names" s_p_are_names 2 ["values"] (spNmsT K)) : Has P w K mg base "is_fact" s_p_is_fact 3 ["value"] (spJ K 5 factD) := by
  obtain ⟨f, fd, F, mg1, bd⟩ := A
  obtain ⟨f_p_are_names, fd_p_are_names, G_p_are_names, m_p_are_names, k_p_are_names, b_p_are_names, F_p_are_names⟩ := h_p_are_names
  obtain ⟨cM, eM, nM, kvs, g_MANY, KM, hM, okM⟩ := gMN
  refine ⟨f, fd, ?_, mg1, F.kp, bd, F⟩
  refine F.ok sc_p_is_fact (fun vs H Q E h => ?_) (fun cdv A outer s H vs Q E hr h => ?_)
  · obtain ⟨v, d, rfl, _⟩ := h
    rfl
  · obtain ⟨v, d, rfl, r, lv, q⟩ := h
    have nd := r.nodict
    refine ⟨_, (pss_cons (ps_if (PW.pt (pw_or (pt_not (pt_val (pe_callB call_isi (by rfl) Z.isinstance_ (by decide +kernel) (pa_cons (pv 0) (pa_cons (pe_bltn (v := .ty "tuple") (by rfl) Z.tuple_ (by decide +kernel) rfl) pa_nil))))) (pw_or (pt_cmpR op_eq (pe_callB call_len_seq (by rfl) Z.len_ (by decide +kernel) (pa_cons (pv 0) pa_nil)) pe_int (nomark _)) (pw_or1 (pt_not (pt_val (pe_callB call_isi (by rfl) Z.isinstance_ (by decide +kernel) (pa_cons (pe_ix ix_tup (pv 0) pe_int (fun _ _ => rfl)) (pa_cons (pe_bltn (v := .ty "str") (by rfl) Z.str_ (by decide +kernel) rfl) pa_nil))))))))) (pss_one (ps_ret pe_bl)) pss_nil) (pss_one (ps_ret (pe_and (pe_cmpR (show OpR _ (compareOp .In) (rInKd K cM) from op_in_kd KM) (pe_ix ix_tup (pv 0) pe_int (fun _ _ => rfl)) (pe_glob (v := .ref cM) (by rfl) g_MANY rfl) (by rfl)) (pe_and (pe_cmpR op_eq (pe_callB call_len_seq (by rfl) Z.len_ (by decide +kernel) (pa_cons (pv 0) pa_nil)) (pe_op op_add (pe_ix (show IxR _ (rKd K cM) from ix_kd KM) (pe_glob (v := .ref cM) (by rfl) g_MANY rfl) (pe_ix ix_tup (pv 0) pe_int (fun _ _ => rfl)) (fun _ _ => rfl)) pe_int) (nomark _)) (pe_one (pe_call G_p_are_names (hr.mono (by decide)) (by rfl) m_p_are_names k_p_are_names b_p_are_names .nil pass0 (pa_cons (pe_slice sl_tup (pv 0) (po_some pe_int) po_none) pa_nil)))))))), ?_⟩
    refine ⟨_, rfl, v, _, _, _, _, rfl, .ty "tuple", r.ty, kit_ty (kit_tuple d nd), _, rfl, ?_⟩
    cases d with
    | tuple ds =>
      cases r with
      | tup hs ht ra =>
        rename_i a xs
        have hl := ra.len
        have hl2 : ds.length ≤ 60 := lv.1
        refine iteF ?_
        refine ⟨_, rfl, a, xs, rfl, .inr hs, rfl, _, rfl, ?_⟩
        cases ds with
        | nil =>
          rw [hl, show decide (V.int (([] : List PyData).length : Int) = V.int 0) = true from decide_eq_true rfl]
          exact iteT (iteT (q H (Same.refl H)))
        | cons d r =>
          have hl' : xs.length = r.length + 1 := hl
          refine ite2 (fun z => ?_) (fun _ => ?_)
          · have z : ((xs.length : Nat) : Int) = 0 := V.int.inj (of_decide_eq_true z)
            omega
          obtain ⟨v, hv, rv⟩ := ra.at' (i := 0) (d := d) rfl
          refine ⟨_, rfl, a, xs, 0, v, rfl, rfl, hs, atI_of (by decide) hv, v, _, _, _, _, rfl, .ty "str", rv.ty, kit_ty (kit_str d rv.nodict), _, rfl, ?_⟩
          cases d with
          | str h =>
            refine iteF ?_
            have hvv : v = .str h := by cases rv; rfl
            subst hvv
            rw [factD_str] at q
            refine ⟨_, rfl, a, xs, 0, _, rfl, rfl, hs, atI_of (by decide) hv, h, _, rfl, rfl, hM h, _, rfl, ?_⟩
            rcases okM h with ⟨m, t, e1, e2⟩ | ⟨e1, e2⟩
            · rw [e1] at q
              rw [e2]
              refine iteT ?_
              refine ⟨_, rfl, a, xs, rfl, .inr hs, _, rfl, a, xs, 0, _, rfl, rfl, hs, atI_of (by decide) hv, h, _, .int m, rfl, rfl, (hM h).trans (by rw [e2]), ⟨t, rfl⟩, _, _, rfl, rfl, rfl, _, rfl, ?_⟩
              refine ite2 (fun h3 => ?_) (fun h3 => ?_)
              · have z : ((xs.length : Nat) : Int) = (m : Int) + 1 := V.int.inj (of_decide_eq_true h3)
                have l3 : r.length = m := by omega
                have m1 : 1 ≤ m := by
                  unfold manyN at e1
                  split at e1
                  · cases e1; decide
                  · split at e1
                    · cases e1; decide
                    · split at e1
                      · cases e1; decide
                      · cases e1
                refine ⟨_, rfl, 1, rfl, a, xs, rfl, hs, ?_, fun p np => ?_⟩
                · rw [show HT.sIx xs.length 0 (some 1) = min 1 xs.length from HT.sIx_nat xs.length 0 1]
                  omega
                · rw [cut1P]
                  refine ⟨p, xs.drop 1, r, rfl, .inl (.inl upd_same), (ra.drop 1).to (same_new np), by rw [List.length_cons] at hl2; omega, fun x hx => Lv.up _ _ (lv_in lv (List.mem_cons_of_mem _ hx)), fun H2 s2 => ?_⟩
                  have q1 := q H2 ((same_new np).trans s2)
                  have e3 : (r.length == m) = true := beq_iff_eq.mpr l3
                  simp only [e3, Bool.true_and] at q1
                  exact q1
              · have q1 := q H (Same.refl H)
                have l3 : (r.length == m) = false := beq_eq_false_iff_ne.mpr fun z => h3 (decide_eq_true (by rw [hl', z]; rfl))
                simp only [l3, Bool.false_and] at q1
                exact q1
            · rw [e1] at q
              rw [e2]
              exact iteF (q H (Same.refl H))
          | _ => exact iteT (q H (Same.refl H))
    | _ => exact iteT (iteT (q H (Same.refl H)))
end
end Th
namespace Th
open PySem PySem.Spec PyProof.Rows L2
abbrev s_p_is_marked_fact : Stmt := topS 40
theorem sc_p_is_marked_fact : FnScope ["value"] ["value"] (defScope s_p_is_marked_fact) := ⟨rfl, rfl, rfl, by decide +kernel, rfl, by decide +kernel, by decide +kernel⟩
/-- a datum is a marked fact -/
def mfD : PyData → Bool
  | .tuple [m, f] => nmD m && factD f
  | _ => false
theorem mfD_len {ds : List PyData} (h : ds.length ≠ 2) : mfD (.tuple ds) = false := by
  cases ds with
  | nil => rfl
  | cons a r =>
    cases r with
    | nil => rfl
    | cons b r =>
      cases r with
      | nil => exact absurd rfl h
      | cons _ _ => rfl
section
variable {P : Program} {w : World} {K : PySem.W.Frag} {mg : Str → Option Value} {base : Heap} {CB : Addr}
theorem has_p_is_marked_fact (Z : Zs mg) (A : At K mg "is_marked_fact" s_p_is_marked_fact ["value"]) (h_p_is_name : Has P w K mg base "is_name" s_p_is_name 1 ["value"] (spJ K 5 nmD)) (h_p_is_fact : Has P w K mg base "is_fact" s_p_is_fact 3 ["value"] (spJ K 5 factD)) : Has P w K mg base "is_marked_fact" s_p_is_marked_fact 4 ["value"] (spJ K 6 mfD) := by
  obtain ⟨f, fd, F, mg1, bd⟩ := A
  obtain ⟨f_p_is_name, fd_p_is_name, G_p_is_name, m_p_is_name, k_p_is_name, b_p_is_name, F_p_is_name⟩ := h_p_is_name
  obtain ⟨f_p_is_fact, fd_p_is_fact, G_p_is_fact, m_p_is_fact, k_p_is_fact, b_p_is_fact, F_p_is_fact⟩ := h_p_is_fact
  refine ⟨f, fd, ?_, mg1, F.kp, bd, F⟩
  refine F.ok sc_p_is_marked_fact (fun vs H Q E h => ?_) (fun cdv A outer s H vs Q E hr h => ?_)
  · obtain ⟨v, d, rfl, _⟩ := h
    rfl
  · obtain ⟨v, d, rfl, r, lv, q⟩ := h
    have nd := r.nodict
    refine ⟨_, (pss_one (ps_ret (pe_and (pe_callB call_isi (by rfl) Z.isinstance_ (by decide +kernel) (pa_cons (pv 0) (pa_cons (pe_bltn (v := .ty "tuple") (by rfl) Z.tuple_ (by decide +kernel) rfl) pa_nil))) (pe_and (pe_cmpR op_eq (pe_callB call_len_seq (by rfl) Z.len_ (by decide +kernel) (pa_cons (pv 0) pa_nil)) pe_int (nomark _)) (pe_and (pe_call G_p_is_name (hr.mono (by decide)) (by rfl) m_p_is_name k_p_is_name b_p_is_name .nil pass0 (pa_cons (pe_ix ix_tup (pv 0) pe_int (fun _ _ => rfl)) pa_nil)) (pe_one (pe_call G_p_is_fact (hr.mono (by decide)) (by rfl) m_p_is_fact k_p_is_fact b_p_is_fact .nil pass0 (pa_cons (pe_ix ix_tup (pv 0) pe_int (fun _ _ => rfl)) pa_nil)))))))), ?_⟩
    refine ⟨_, rfl, v, _, _, _, _, rfl, .ty "tuple", r.ty, kit_ty (kit_tuple d nd), _, rfl, ?_⟩
    cases d with
    | tuple ds =>
      cases r with
      | tup hs ht ra =>
        rename_i a xs
        have hl := ra.len
        refine iteT ?_
        refine ⟨_, rfl, a, xs, rfl, .inr hs, rfl, _, rfl, ?_⟩
        refine ite2 (fun h2 => ?_) (fun h2 => ?_)
        · have z : ((xs.length : Nat) : Int) = 2 := V.int.inj (of_decide_eq_true h2)
          obtain ⟨m, f0, e⟩ : ∃ m f0, ds = [m, f0] := by
            cases ds with
            | nil => rw [List.length_nil] at hl; omega
            | cons m r =>
              cases r with
              | nil => rw [List.length_cons, List.length_nil] at hl; omega
              | cons f0 r =>
                cases r with
                | nil => exact ⟨m, f0, rfl⟩
                | cons _ _ => rw [List.length_cons, List.length_cons, List.length_cons] at hl; omega
          subst e
          obtain ⟨v0, hv0, r0⟩ := ra.at' (i := 0) (d := m) rfl
          obtain ⟨v1, hv1, r1⟩ := ra.at' (i := 1) (d := f0) rfl
          refine ⟨_, rfl, a, xs, 0, v0, rfl, rfl, hs, atI_of (by decide) hv0, v0, m, rfl, r0, lv_in lv List.mem_cons_self, fun H1 s1 => ⟨_, rfl, ?_⟩⟩
          cases hm : nmD m with
          | false =>
            refine iteF ?_
            have q1 := q H1 s1
            rw [show mfD (.tuple [m, f0]) = (nmD m && factD f0) from rfl, hm] at q1
            exact q1
          | true =>
            refine iteT ?_
            refine ⟨_, rfl, a, xs, 1, v1, rfl, rfl, same_t s1 hs, atI_of (by decide) hv1, v1, f0, rfl, r1.to s1, lv_in lv (List.mem_cons_of_mem _ List.mem_cons_self), fun H2 s2 => ?_⟩
            have q1 := q H2 (s1.trans s2)
            rw [show mfD (.tuple [m, f0]) = (nmD m && factD f0) from rfl, hm] at q1
            exact q1
        · have q1 := q H (Same.refl H)
          rw [mfD_len (fun z => h2 (decide_eq_true (by rw [hl, z]; rfl)))] at q1
          exact q1
    | _ => exact iteF (q H (Same.refl H))
end
end Th
namespace Th
open PySem PySem.Spec PyProof.Rows L2
abbrev s_p_names_in : Stmt := topS 41
theorem sc_p_names_in : FnScope ["fact"] ["fact"] (defScope s_p_names_in) := ⟨rfl, rfl, rfl, by decide +kernel, rfl, by decide +kernel, by decide +kernel⟩
/-- the names of a fact that is a tuple of texts, in a new list -/
def spNamesIn (K : PySem.W.Frag) : Sp := fun vs H Q _ => ∃ (a : Addr) (ss : List Str), vs = [.ref a] ∧ SqT K H a (ss.map V.str) ∧ ss ≠ [] ∧ ∀ r H', Same H H' → H r = none → H' r = some (.lst ((ss.drop 1).map V.str)) → Q (.ref r) H'
theorem cut1N (xs : List V) : cutV xs (some 1) none = xs.drop 1 := by
  unfold cutV
  rw [show HT.sIx xs.length 0 (some 1) = min 1 xs.length from HT.sIx_nat xs.length 0 1, HT.sIx_none]
  cases xs with
  | nil => rfl
  | cons x r =>
    rw [show min 1 (x :: r).length = 1 by rw [List.length_cons]; omega]
    show (List.take ((x :: r).length - 1) r) = r
    rw [List.length_cons, Nat.add_sub_cancel]
    exact List.take_length
section
variable {P : Program} {w : World} {K : PySem.W.Frag} {mg : Str → Option Value} {base : Heap} {CB : Addr}
theorem has_p_names_in (Z : Zs mg) (A : At K mg "names_in" s_p_names_in ["fact"]) : Has P w K mg base "names_in" s_p_names_in 1 ["fact"] (spNamesIn K) := by
  obtain ⟨f, fd, F, mg1, bd⟩ := A
  refine ⟨f, fd, ?_, mg1, F.kp, bd, F⟩
  refine F.ok sc_p_names_in (fun vs H Q E h => ?_) (fun cdv A outer s H vs Q E hr h => ?_)
  · obtain ⟨a, ss, rfl, _⟩ := h
    rfl
  · obtain ⟨a, ss, rfl, hs, hne, q⟩ := h
    refine ⟨_, (pss_one (ps_ret (pe_callTy call_list_of (by rfl) Z.list_ (by decide +kernel) (pa_cons (pe_slice sl_tup (pv 0) (po_some pe_int) po_none) pa_nil)))), ?_⟩
    refine ⟨_, rfl, 1, rfl, a, _, rfl, hs, ?_, fun p np => ?_⟩
    · rw [show HT.sIx (ss.map V.str).length 0 (some 1) = min 1 (ss.map V.str).length from HT.sIx_nat _ 0 1]
      have l0 : 0 < ss.length := List.length_pos_iff.mpr hne
      rw [List.length_map]
      omega
    · rw [cut1N, ← List.map_drop]
      refine ⟨p, _, rfl, .inr (.inl (.inl upd_same)), fun r nr => ?_⟩
      exact q r _ ((same_new np).trans (same_new nr)) ((same_new np).free nr) upd_same
end
end Th
namespace Th
open PySem PySem.Spec PyProof.Rows L2
abbrev s_c_InvalidFact_init : Stmt := inClass (topS 7) 0
theorem sc_c_InvalidFact_init : FnScope ["self", "at"] ["self", "at"] (defScope s_c_InvalidFact_init) := ⟨rfl, rfl, rfl, by decide +kernel, rfl, by decide +kernel, by decide +kernel⟩

section
variable {P : Program} {w : World} {K : PySem.W.Frag} {mg : Str → Option Value} {base : Heap} {CB : Addr}
theorem has_c_InvalidFact_init {fI : Addr} {fd : FuncData} (Z : Zs mg) (F : Fun K "__init__" "InvalidFact.__init__" s_c_InvalidFact_init fI fd) (h_p_copied : Has P w K mg base "copied" s_p_copied 6 ["value"] (spCopy K 6)) : FnOk P w K mg base CX0 7 fI fd ["self", "at"] (spInit1 K "InvalidFact" "at" 6) := by
  obtain ⟨f_p_copied, fd_p_copied, G_p_copied, m_p_copied, k_p_copied, b_p_copied, F_p_copied⟩ := h_p_copied
  refine F.ok sc_c_InvalidFact_init (fun vs H Q E h => ?_) (fun cdv A outer s H vs Q E hr h => ?_)
  · obtain ⟨a, C, v, d, rfl, _⟩ := h
    rfl
  · obtain ⟨a, C, v, d, rfl, G, n1, n2, ea, rv, lv, q⟩ := h
    refine ⟨_, (pss_cons (ps_put (pv 0) (pe_call G_p_copied (hr.mono (by decide)) (by rfl) m_p_copied k_p_copied b_p_copied .nil pass0 (pa_cons (pv 1) pa_nil))) (pss_one (ps_put (pv 0) pe_str))), ?_⟩
    refine ⟨_, rfl, v, d, fun b => b = a, rfl, fun b hb => (by rw [hb, ea]; exact fun z => nomatch z), rv.kd fun b o e p => ?_, lv, fun v' H1 s1 rv' => ?_⟩
    · rw [hidS_out fun z => ?_]
      · exact e
      · rw [z, ea] at e
        exact p.1 _ (Option.some.inj e).symm
    · have ea1 := s1 _ _ ea
      refine ⟨_, rfl, a, C, rfl, G, n1, .inl ⟨ea1, fun dx nd ne => ?_⟩⟩
      refine ⟨_, rfl, a, C, rfl, G, n2, .inr ⟨dx, [("at", v')], upd_same, ?_, (by show 1 ≤ 900; decide), ?_⟩⟩
      · rw [upd_ne ne]; exact upd_same
      · exact q H1 v' dx s1 (rv'.to hidS_same) nd ne
end
end Th
namespace Th
open PySem PySem.Spec PyProof.Rows L2
abbrev s_c_UnknownFind_init : Stmt := inClass (topS 13) 0
theorem sc_c_UnknownFind_init : FnScope ["self", "name"] ["self", "name"] (defScope s_c_UnknownFind_init) := ⟨rfl, rfl, rfl, by decide +kernel, rfl, by decide +kernel, by decide +kernel⟩

section
variable {P : Program} {w : World} {K : PySem.W.Frag} {mg : Str → Option Value} {base : Heap} {CB : Addr}
theorem has_c_UnknownFind_init {fI : Addr} {fd : FuncData} (Z : Zs mg) (F : Fun K "__init__" "UnknownFind.__init__" s_c_UnknownFind_init fI fd) (h_p_copied : Has P w K mg base "copied" s_p_copied 6 ["value"] (spCopy K 6)) : FnOk P w K mg base CX0 7 fI fd ["self", "name"] (spInit1 K "UnknownFind" "name" 6) := by
  obtain ⟨f_p_copied, fd_p_copied, G_p_copied, m_p_copied, k_p_copied, b_p_copied, F_p_copied⟩ := h_p_copied
  refine F.ok sc_c_UnknownFind_init (fun vs H Q E h => ?_) (fun cdv A outer s H vs Q E hr h => ?_)
  · obtain ⟨a, C, v, d, rfl, _⟩ := h
    rfl
  · obtain ⟨a, C, v, d, rfl, G, n1, n2, ea, rv, lv, q⟩ := h
    refine ⟨_, (pss_cons (ps_put (pv 0) (pe_call G_p_copied (hr.mono (by decide)) (by rfl) m_p_copied k_p_copied b_p_copied .nil pass0 (pa_cons (pv 1) pa_nil))) (pss_one (ps_put (pv 0) pe_str))), ?_⟩
    refine ⟨_, rfl, v, d, fun b => b = a, rfl, fun b hb => (by rw [hb, ea]; exact fun z => nomatch z), rv.kd fun b o e p => ?_, lv, fun v' H1 s1 rv' => ?_⟩
    · rw [hidS_out fun z => ?_]
      · exact e
      · rw [z, ea] at e
        exact p.1 _ (Option.some.inj e).symm
    · have ea1 := s1 _ _ ea
      refine ⟨_, rfl, a, C, rfl, G, n1, .inl ⟨ea1, fun dx nd ne => ?_⟩⟩
      refine ⟨_, rfl, a, C, rfl, G, n2, .inr ⟨dx, [("name", v')], upd_same, ?_, (by show 1 ≤ 900; decide), ?_⟩⟩
      · rw [upd_ne ne]; exact upd_same
      · exact q H1 v' dx s1 (rv'.to hidS_same) nd ne
end
end Th
namespace Th
open PySem PySem.Spec PyProof.Rows L2
abbrev s_p_check_facts : Stmt := topS 42
theorem sc_p_check_facts : FnScope ["finds", "facts", "at", "marked", "mark", "_", "fact", "name"] ["finds", "facts"] (defScope s_p_check_facts) := ⟨rfl, rfl, rfl, by decide +kernel, rfl, by decide +kernel, by decide +kernel⟩
def namesOf : PyData → List Str
  | .tuple [_, .tuple (_ :: r)] => r.map strD
  | _ => []
/-- what is wrong with a list of marked facts -/
def fDue (xs : List Str) (d : PyData) : Option (Str × PyData) := match itemsF d with
  | none => dueE "InvalidFact" (.int (-1))
  | some ds => if 30 < ds.length then dueE "TooMany" (.int 30) else match firstIx (fun k => !mfD (ds.getD k .none)) ds.length with
    | some k => dueE "InvalidFact" (.int (k : Int))
    | none => match dupAt (ds.map markOf) with
      | some x => dueE "DuplicateName" (.str x)
      | none => ((ds.flatMap namesOf).find? fun x => !decide (x ∈ xs)).bind fun x => dueE "UnknownFind" (.str x)
theorem mf_shape {e : PyData} (h : mfD e = true) : ∃ (m t : Str) (rs : List Str), e = .tuple [.str m, .tuple ((t :: rs).map .str)] ∧ isNm m = true ∧ (∀ x ∈ rs, isNm x = true) ∧ markOf e = m ∧ namesOf e = rs := by
  cases e with
  | tuple ds =>
    cases ds with
    | nil => cases h
    | cons a ds =>
      cases ds with
      | nil => cases h
      | cons b ds =>
        cases ds with
        | cons _ _ => cases h
        | nil =>
          obtain ⟨h1, h2⟩ := Bool.and_eq_true_iff.mp (show (nmD a && factD b) = true from h)
          have ea := nmD_str h1
          cases b with
          | tuple fs =>
            cases fs with
            | nil => cases h2
            | cons c r =>
              cases c with
              | str t =>
                rw [factD_str] at h2
                have hr : r.all nmD = true := by
                  split at h2
                  · exact (Bool.and_eq_true_iff.mp h2).2
                  · cases h2
                have er := nms_strs hr
                refine ⟨strD a, t, r.map strD, ?_, ?_, fun x hx => ?_, rfl, rfl⟩
                · rw [ea, List.map_cons, ← er]
                  rfl
                · rw [ea] at h1
                  exact h1
                · obtain ⟨y, hy, rfl⟩ := List.mem_map.mp hx
                  have := List.all_eq_true.mp hr y hy
                  rw [nmD_str this] at this
                  exact this
              | _ => cases h2
          | _ => cases h2
  | _ => cases h
theorem due_none {xs : List Str} {d : PyData} (h : itemsF d = none) : fDue xs d = dueE "InvalidFact" (.int (-1)) := by
  unfold fDue
  rw [h]
theorem due_many {xs : List Str} {d : PyData} {ds : List PyData} (h : itemsF d = some ds) (l : 30 < ds.length) : fDue xs d = dueE "TooMany" (.int 30) := by
  unfold fDue
  rw [h]
  show (if 30 < ds.length then _ else _) = _
  rw [if_pos l]
theorem due_bad {xs : List Str} {d : PyData} {ds : List PyData} (h : itemsF d = some ds) (l : ds.length ≤ 30) {k : Nat} {e : PyData} (hk : ds[k]? = some e) (n : mfD e = false) (a : ∀ (j : Nat) (e' : PyData), j < k → ds[j]? = some e' → mfD e' = true) : fDue xs d = dueE "InvalidFact" (.int (k : Int)) := by
  unfold fDue
  rw [h]
  show (if 30 < ds.length then _ else _) = _
  rw [if_neg (by omega), firstIx_some (lt_of_get hk) (by rw [getDd hk, n]; rfl) fun j hj => ?_]
  obtain ⟨e', he⟩ : ∃ e', ds[j]? = some e' := ⟨_, List.getElem?_eq_getElem (Nat.lt_trans hj (lt_of_get hk))⟩
  rw [getDd he, a j e' hj he]
  rfl
theorem good_ix {ds : List PyData} (a : ∀ (j : Nat) (e' : PyData), ds[j]? = some e' → mfD e' = true) : firstIx (fun k => !mfD (ds.getD k .none)) ds.length = none := firstIx_none fun j hj => by
  obtain ⟨e', he⟩ : ∃ e', ds[j]? = some e' := ⟨_, List.getElem?_eq_getElem hj⟩
  rw [getDd he, a j e' he]
  rfl
theorem due_dup {xs : List Str} {d : PyData} {ds : List PyData} (h : itemsF d = some ds) (l : ds.length ≤ 30) (a : ∀ (j : Nat) (e' : PyData), ds[j]? = some e' → mfD e' = true) {x : Str} (hx : dupAt (ds.map markOf) = some x) : fDue xs d = dueE "DuplicateName" (.str x) := by
  unfold fDue
  rw [h]
  show (if 30 < ds.length then _ else _) = _
  rw [if_neg (by omega), good_ix a]
  show (match dupAt (ds.map markOf) with | some x => dueE "DuplicateName" (.str x) | none => _) = _
  rw [hx]
theorem due_end {xs : List Str} {d : PyData} {ds : List PyData} (h : itemsF d = some ds) (l : ds.length ≤ 30) (a : ∀ (j : Nat) (e' : PyData), ds[j]? = some e' → mfD e' = true) (hx : dupAt (ds.map markOf) = none) : fDue xs d = ((ds.flatMap namesOf).find? fun x => !decide (x ∈ xs)).bind fun x => dueE "UnknownFind" (.str x) := by
  unfold fDue
  rw [h]
  show (if 30 < ds.length then _ else _) = _
  rw [if_neg (by omega), good_ix a]
  show (match dupAt (ds.map markOf) with | some x => dueE "DuplicateName" (.str x) | none => _) = _
  rw [hx]
theorem find_split {p : Str → Bool} {A B : List Str} {x : Str} (a : ∀ y ∈ A, p y = false) (h : p x = true) : (A ++ x :: B).find? p = some x := by
  rw [List.find?_append, List.find?_eq_none.mpr fun y hy => by rw [a y hy]; exact Bool.false_ne_true, List.find?_cons, h]
  rfl
theorem flat_at {ds : List PyData} {i : Nat} {e : PyData} (h : ds[i]? = some e) : ds.flatMap namesOf = (ds.take i).flatMap namesOf ++ (namesOf e ++ (ds.drop (i + 1)).flatMap namesOf) := by
  have e1 : ds = ds.take i ++ e :: ds.drop (i + 1) := by
    have hl := lt_of_get h
    have : ds[i] = e := Option.some.inj ((List.getElem?_eq_getElem hl).symm.trans h)
    conv => lhs; rw [← List.take_append_drop i ds, List.drop_eq_getElem_cons hl]
    rw [this]
  conv => lhs; rw [e1]
  rw [List.flatMap_append, List.flatMap_cons]

/-- a list of marked facts about finds, or an error -/
def spCheckF (K : PySem.W.Frag) (mg : Str → Option Value) : Sp := fun vs H Q E => ∃ (a : Addr) (xs : List Str) (v : V) (d : PyData), vs = [.ref a, v] ∧ SqL K H a (xs.map V.str) ∧ Da K H v d ∧ (∀ ds, itemsF d = some ds → ∀ e ∈ ds, Lv 6 e) ∧
  (fDue xs d = none → ∀ H', Same H H' → Q .non H') ∧
  (∀ c val, fDue xs d = some (c, val) → ∀ cls dd v' H', Same H H' → IsExc K mg c [("code", .str c), (fldOf c, v')] cls dd H' → Da K H' v' val → E cls dd H')
section
variable {P : Program} {w : World} {K : PySem.W.Frag} {mg : Str → Option Value} {base : Heap} {CB : Addr}
theorem has_p_check_facts (Z : Zs mg) (gMX : ∃ t, mg "MOST_FACTS" = some (.int 30 t)) (A : At K mg "check_facts" s_p_check_facts ["finds", "facts"]) (h_p_is_listed : Has P w K mg base "is_listed" s_p_is_listed 1 ["value"] (spSeqQ K)) (h_p_is_marked_fact : Has P w K mg base "is_marked_fact" s_p_is_marked_fact 4 ["value"] (spJ K 6 mfD)) (h_p_names_in : Has P w K mg base "names_in" s_p_names_in 1 ["fact"] (spNamesIn K)) (h_p_check_different : HasX P w K mg base "check_different" s_p_check_different 9 ["names"] (spDiff K mg)) (h_c_InvalidFact_init : HasE P w K mg base "InvalidFact" "InvalidFact.__init__" s_c_InvalidFact_init ["self", "at"] ["at", "code"] 7 (spInit1 K "InvalidFact" "at" 6)) (h_c_TooMany_init : HasE P w K mg base "TooMany" "TooMany.__init__" s_c_TooMany_init ["self", "most"] ["most", "code"] 7 (spInit1 K "TooMany" "most" 6)) (h_c_UnknownFind_init : HasE P w K mg base "UnknownFind" "UnknownFind.__init__" s_c_UnknownFind_init ["self", "name"] ["name", "code"] 7 (spInit1 K "UnknownFind" "name" 6)) : HasX P w K mg base "check_facts" s_p_check_facts 10 ["finds", "facts"] (spCheckF K mg) := by
  obtain ⟨f, fd, F, mg1, bd⟩ := A
  obtain ⟨f_p_is_listed, fd_p_is_listed, G_p_is_listed, m_p_is_listed, k_p_is_listed, b_p_is_listed, F_p_is_listed⟩ := h_p_is_listed
  obtain ⟨f_p_is_marked_fact, fd_p_is_marked_fact, G_p_is_marked_fact, m_p_is_marked_fact, k_p_is_marked_fact, b_p_is_marked_fact, F_p_is_marked_fact⟩ := h_p_is_marked_fact
  obtain ⟨f_p_names_in, fd_p_names_in, G_p_names_in, m_p_names_in, k_p_names_in, b_p_names_in, F_p_names_in⟩ := h_p_names_in
  obtain ⟨f_p_check_different, fd_p_check_different, G_p_check_different, m_p_check_different, k_p_check_different, b_p_check_different, F_p_check_different⟩ := h_p_check_different
  obtain ⟨C_c_InvalidFact_init, fI_c_InvalidFact_init, fd_c_InvalidFact_init, E_c_InvalidFact_init, G_c_InvalidFact_init⟩ := h_c_InvalidFact_init
  obtain ⟨C_c_TooMany_init, fI_c_TooMany_init, fd_c_TooMany_init, E_c_TooMany_init, G_c_TooMany_init⟩ := h_c_TooMany_init
  obtain ⟨C_c_UnknownFind_init, fI_c_UnknownFind_init, fd_c_UnknownFind_init, E_c_UnknownFind_init, G_c_UnknownFind_init⟩ := h_c_UnknownFind_init
  obtain ⟨tMX, g_MOST_FACTS⟩ := gMX
  refine ⟨f, fd, ?_, mg1, F.kp, bd, F⟩
  refine F.okX sc_p_check_facts (fun vs H Q E h => ?_) (fun cdv A outer s H vs Q E hr h => ?_)
  · obtain ⟨a, xs, v, d, rfl, _⟩ := h
    rfl
  · obtain ⟨a, xs, v, d, rfl, ha, rv, hlv0, q1, q2⟩ := h
    refine ⟨_, (pss_cons (ps_if (pt_not (pt_val (pe_call G_p_is_listed (hr.mono (by decide)) (by rfl) m_p_is_listed k_p_is_listed b_p_is_listed .nil pass0 (pa_cons (pv 1) pa_nil)))) (pss_one (ps_raise rfl (takes_of rfl rfl rfl rfl) (pmk_new E_c_InvalidFact_init.g E_c_InvalidFact_init.ini E_c_InvalidFact_init.tI G_c_InvalidFact_init (hr.mono (by decide)) E_c_InvalidFact_init.b (by rfl) E_c_InvalidFact_init.m (pa_cons (pe_un un_neg pe_int) pa_nil)))) pss_nil) (pss_cons (ps_if (pt_cmpR op_gt (pe_callB call_len_seq (by rfl) Z.len_ (by decide +kernel) (pa_cons (pv 1) pa_nil)) (pe_glob (v := .int 30) (by rfl) g_MOST_FACTS ⟨_, rfl⟩) (nomark _)) (pss_one (ps_raise rfl (takes_of rfl rfl rfl rfl) (pmk_new E_c_TooMany_init.g E_c_TooMany_init.ini E_c_TooMany_init.tI G_c_TooMany_init (hr.mono (by decide)) E_c_TooMany_init.b (by rfl) E_c_TooMany_init.m (pa_cons (pe_glob (v := .int 30) (by rfl) g_MOST_FACTS ⟨_, rfl⟩) pa_nil)))) pss_nil) (pss_cons (ps_for (passes_of rfl) rfl (pi_enumLT (by rfl) Z.enumerate_ (pa_cons (pv 1) pa_nil)) (pg_tup (by rfl) (pgs_cons (pg_name (i := 2) sc_p_check_facts.nd rfl (Or.inl rfl)) (pgs_cons (pg_name (i := 3) sc_p_check_facts.nd rfl (Or.inl rfl)) pgs_nil))) (pss_one (ps_if (pt_not (pt_val (pe_call G_p_is_marked_fact (hr.mono (by decide)) (by rfl) m_p_is_marked_fact k_p_is_marked_fact b_p_is_marked_fact .nil pass0 (pa_cons (pv 3) pa_nil)))) (pss_one (ps_raise rfl (takes_of rfl rfl rfl rfl) (pmk_new E_c_InvalidFact_init.g E_c_InvalidFact_init.ini E_c_InvalidFact_init.tI G_c_InvalidFact_init (hr.mono (by decide)) E_c_InvalidFact_init.b (by rfl) E_c_InvalidFact_init.m (pa_cons (pv 2) pa_nil)))) pss_nil))) (pss_cons (ps_expr (pe_call G_p_check_different (hr.mono (by decide)) (by rfl) m_p_check_different k_p_check_different b_p_check_different .nil (passes_call (takes_of rfl rfl rfl rfl) fun _ _ _ _ h => h) (pa_cons (pe_lc (own := [("mark", 4), ("_", 5)]) (g := gTup K 2 (gCons (gName 4) (gCons (gName 5) gNil))) (by rfl) sc_p_check_facts.nd (pi_LT (pv 1)) (blkOk_by (own := [("mark", 4), ("_", 5)]) (N := ["finds", "facts", "at", "marked", "mark", "_", "fact", "name"]) (sc := defScope s_p_check_facts) (by decide +kernel)) (fun _ _ _ _ _ => (pg_tup (by rfl) (pgs_cons (pg_name (i := 4) sc_p_check_facts.nd rfl (Or.inl rfl)) (pgs_cons (pg_name (i := 5) sc_p_check_facts.nd rfl (Or.inl rfl)) pgs_nil)))) (fun _ _ _ _ _ => pts_nil) (fun _ _ _ _ _ => (pv 4))) pa_nil))) (pss_one (ps_for (passes_of rfl) rfl (pi_LT (pv 1)) (pg_tup (by rfl) (pgs_cons (pg_name (i := 5) sc_p_check_facts.nd rfl (Or.inl rfl)) (pgs_cons (pg_name (i := 6) sc_p_check_facts.nd rfl (Or.inl rfl)) pgs_nil))) (pss_one (ps_for (passes_of rfl) rfl (pi_list (pe_call G_p_names_in (hr.mono (by decide)) (by rfl) m_p_names_in k_p_names_in b_p_names_in .nil pass0 (pa_cons (pv 6) pa_nil))) (pg_name (i := 7) sc_p_check_facts.nd rfl (Or.inl rfl)) (pss_one (ps_if (pt_cmpR op_notIn_seq (pv 7) (pv 0) (by rfl)) (pss_one (ps_raise rfl (takes_of rfl rfl rfl rfl) (pmk_new E_c_UnknownFind_init.g E_c_UnknownFind_init.ini E_c_UnknownFind_init.tI G_c_UnknownFind_init (hr.mono (by decide)) E_c_UnknownFind_init.b (by rfl) E_c_UnknownFind_init.m (pa_cons (pv 7) pa_nil)))) pss_nil)))))))))), ?_⟩
    refine ⟨_, rfl, v, d, rfl, rv, fun H1 s1 => ⟨_, rfl, ite2 (fun z => ?_) (fun z => ?_)⟩⟩
    · have hn := noseqF (d := d) (fun w => by rw [decide_eq_true w] at z; cases z)
      refine ⟨_, rfl, ?_⟩
      exact new1 E_c_InvalidFact_init (by decide) (by decide) (.int (-1)) trivial fun cls dd v' H' s e r => q2 _ _ (due_none hn) cls dd v' H' (s1.trans s) e r
    obtain ⟨b, vs, ds, rfl, hq, al, hi⟩ := seqF (rv.to s1) (Classical.byContradiction fun w => z (by rw [decide_eq_false w]; rfl))
    have hlv := hlv0 ds hi
    refine ⟨_, rfl, b, vs, rfl, hq, _, _, rfl, rfl, _, rfl, ite2 (fun z => ?_) (fun z => ?_)⟩
    · have hlen : 30 < ds.length := by
        have z := of_decide_eq_true z
        rw [al.len] at z
        omega
      exact new1 E_c_TooMany_init (by decide) (by decide) (.int 30) trivial fun cls dd v' H' s e r => q2 _ _ (due_many hi hlen) cls dd v' H' (s1.trans s) e r
    have hl : ds.length ≤ 30 := by
      have z : ¬ ((vs.length : Nat) : Int) > 30 := fun w => z (decide_eq_true w)
      rw [al.len] at z
      omega
    rcases hq with hq | hq
    · skip
      refine ⟨_, rfl, b, vs, rfl, .inl ⟨hq, for_it walk_enum (fun i σ H' => ∃ y1 y2 : Option V, σ = [some (.ref a), some (.ref b), y1, y2, none, none, none, none] ∧ Same H1 H' ∧ ∀ j e, j < i → ds[j]? = some e → mfD e = true) ⟨_, _, rfl, Same.refl H1, fun j e hj => absurd hj (Nat.not_lt_zero j)⟩ (fun i σ H' _ z => by obtain ⟨_, _, _, s, _⟩ := z; exact Same.seq s hq) ?_ ?_⟩⟩
      · rintro i x σ H2 H3 _ ⟨y1, y2, rfl, s2, hn⟩ ⟨T, x1, x2, rfl, nT, rfl, e1, e2⟩
        cases e1
        obtain ⟨e, he, re⟩ := (al.to s2).at e2
        have s3 := same_new (o := .tup [.int (i : Nat), x2]) nT
        refine ⟨T, _, rfl, .inl (.inl upd_same), rfl, _, _, rfl, _, _, rfl, rfl, ?_⟩
        refine ⟨_, rfl, x2, e, rfl, re.to s3, hlv e (List.mem_of_getElem? he), fun H4 s4 => ?_⟩
        have s5 := s2.trans (s3.trans s4)
        refine ⟨_, rfl, ite2 (fun hm => ?_) (fun hm => ?_)⟩
        · have hm' : mfD e = false := by simpa using hm
          refine ⟨_, rfl, ?_⟩
          exact new1 E_c_InvalidFact_init (by decide) (by decide) (.int (i : Int)) trivial fun cls dd v' H' s e' r => q2 _ _ (due_bad hi hl he hm' hn) cls dd v' H' ((s1.trans s5).trans s) e' r
        · have hm' : mfD e = true := by simpa using hm
          refine ⟨_, _, rfl, s5, fun j e' hj he' => ?_⟩
          rcases Nat.lt_succ_iff_lt_or_eq.mp hj with z | z
          · exact hn j e' z he'
          · rw [z, he] at he'
            cases he'
            exact hm'
      rintro σ H2 ⟨y1, y2, rfl, s2, hn⟩
      have hall : ∀ j e', ds[j]? = some e' → mfD e' = true := fun j e' he => hn j e' (by rw [al.len]; exact lt_of_get he) he
      have shp : ∀ (j : Nat) (x : V) (H' : Hp), Same H1 H' → vs[j]? = some x → ∃ (p q : Addr) (m t : Str) (rs : List Str), x = .ref p ∧ SqT K H' p [.str m, .ref q] ∧ SqT K H' q ((t :: rs).map V.str) ∧ isNm m = true ∧ (∀ x ∈ rs, isNm x = true) ∧ ∃ e, ds[j]? = some e ∧ markOf e = m ∧ namesOf e = rs := fun j x H' s hx => by
        obtain ⟨e, he, re⟩ := (al.to s).at hx
        obtain ⟨m, t, rs, rfl, nm, nr, em, en⟩ := mf_shape (hall j e he)
        cases re with
        | tup sq ty ra =>
          cases ra with
          | cons r1 ra =>
            cases r1
            cases ra with
            | cons r2 ra =>
              cases ra
              cases r2 with
              | tup sq2 ty2 ra2 =>
                have ev := ra2.isStrs
                subst ev
                exact ⟨_, _, m, t, rs, rfl, sq, sq2, nm, nr, _, he, em, en⟩
      -- the marks
      have lvs := al.len
      refine ⟨_, rfl, b, vs, rfl, .inl ⟨Same.seq s2 hq, fun L nL => ?_⟩⟩
      refine lc_list (K := K) (a := b) (xs := vs) (fun i H4 => Same H2 H4 ∧ H4 L = some (.lst (((ds.map markOf).take i).map V.str))) ⟨same_new nL, upd_same⟩ (fun i H4 _ z => Same.seq (s2.trans z.1) hq) ?_ ?_
      · rintro i x H4 hx ⟨s4, e4⟩
        obtain ⟨p, q', m, t, rs, rfl, sq, _, _, _, e, he, em, _⟩ := shp i x H4 (s2.trans s4) hx
        refine ⟨p, _, rfl, sq, rfl, _, _, rfl, _, _, rfl, rfl, rfl, _, rfl, _, e4, slineL (by rw [List.length_map, List.length_take, List.length_map]; omega), same_mut s4 nL, ?_⟩
        rw [upd_same, take_succ_map (f := V.str) (x := m) (by rw [List.getElem?_map, he, ← em]; rfl)]
      rintro H4 ⟨s4, e4⟩
      rw [List.take_of_length_le (by rw [List.length_map, lvs]; exact Nat.le_refl _)] at e4
      have nmk : ∀ x ∈ ds.map markOf, isNm x = true := fun x hx => by
        obtain ⟨e, he, rfl⟩ := List.mem_map.mp hx
        obtain ⟨j, hj⟩ := List.getElem?_of_mem he
        obtain ⟨m, t, rs, _, nm, _, em, _⟩ := mf_shape (hall j e hj)
        rw [em]
        exact nm
      have s14 := s1.trans (s2.trans s4)
      refine ⟨L, ds.map markOf, rfl, .inl (.inl e4), by rw [List.length_map]; omega, nmk, fun hd H5 s5 => ?_, fun x hd cls dd v' H5 s5 ie rv' => q2 _ _ (due_dup hi hl hall hd) cls dd v' H5 (s14.trans s5) ie rv'⟩
      have s25 := s2.trans (s4.trans s5)
      have due := due_end (xs := xs) hi hl hall hd
      -- the names
      refine ⟨_, rfl, b, vs, rfl, .inl ⟨Same.seq s25 hq, for_list (K := K) (a := b) (xs := vs) (fun i σ H' => ∃ y2 y3 y5 y6 y7 : Option V, σ = [some (.ref a), some (.ref b), y2, y3, none, y5, y6, y7] ∧ Same H1 H' ∧ ∀ x ∈ (ds.take i).flatMap namesOf, x ∈ xs) ⟨_, _, _, _, _, rfl, s25, fun x hx => nomatch hx⟩ (fun i σ H' _ z => by obtain ⟨_, _, _, _, _, _, s, _⟩ := z; exact Same.seq s hq) ?_ ?_⟩⟩
      · rintro i x σ H6 hx ⟨y2, y3, y5, y6, y7, rfl, s6, hin⟩
        obtain ⟨p, q', m, t, rs, rfl, sq, sq2, _, nr, e, he, em, en⟩ := shp i x H6 s6 hx
        refine ⟨p, _, rfl, sq, rfl, _, _, rfl, _, _, rfl, rfl, ?_⟩
        refine ⟨_, rfl, q', t :: rs, rfl, sq2, List.cons_ne_nil _ _, fun R H7 s7 nR eR => ?_⟩
        have s67 := s6.trans s7
        refine ⟨R, rfl, ⟨_, .inl (.inl eR)⟩, for_list (K := K) (a := R) (xs := rs.map V.str) (fun j σ H' => ∃ y7 : Option V, σ = [some (.ref a), some (.ref b), y2, y3, none, some (.str m), some (.ref q'), y7] ∧ Same H7 H' ∧ ∀ x ∈ rs.take j, x ∈ xs) ⟨_, rfl, Same.refl H7, fun x hx => nomatch hx⟩ (fun j σ H' _ z => by obtain ⟨_, _, s, _⟩ := z; exact .inl (.inl (s _ _ eR))) ?_ ?_⟩
        · rintro j y σ H8 hj ⟨y7', rfl, s8, hin2⟩
          obtain ⟨z, hz, rfl⟩ := getmap hj
          have s18 := s67.trans s8
          refine ⟨_, rfl, _, rfl, a, _, rfl, .inl ((s1.trans s18).seq ha), rfl, flatS _, _, rfl, ?_⟩
          rw [inS]
          refine ite2 (fun hm => ?_) (fun hm => ?_)
          · have hm' : z ∉ xs := by simpa using hm
            refine ⟨_, rfl, ?_⟩
            have erest : rs = rs.take j ++ z :: rs.drop (j + 1) := by
              have hlj := lt_of_get hz
              conv => lhs; rw [← List.take_append_drop j rs, List.drop_eq_getElem_cons hlj]
              rw [Option.some.inj ((List.getElem?_eq_getElem hlj).symm.trans hz)]
            have hd2 : fDue xs d = dueE "UnknownFind" (.str z) := by
              rw [due, flat_at he, en, erest, List.append_assoc, List.cons_append, ← List.append_assoc, find_split (fun y hy => ?_) (by simpa using hm')]
              · rfl
              · rcases List.mem_append.mp hy with h | h
                · simpa using hin y h
                · simpa using hin2 y h
            exact new1 E_c_UnknownFind_init (by decide) (by decide) (.str z) (lv_nm (n := 5) (nr z (List.mem_of_getElem? hz))) fun cls dd v' H' s e' r => q2 _ _ hd2 cls dd v' H' ((s1.trans s18).trans s) e' r
          · have hm' : z ∈ xs := by simpa using hm
            refine ⟨_, rfl, s8, fun x hx => ?_⟩
            rw [List.take_add_one, hz] at hx
            rcases List.mem_append.mp hx with h | h
            · exact hin2 x h
            · rw [List.mem_singleton.mp h]
              exact hm'
        · rintro σ H8 ⟨y7', rfl, s8, hin2⟩
          rw [List.length_map, List.take_length] at hin2
          refine ⟨_, _, _, _, _, rfl, s67.trans s8, fun x hx => ?_⟩
          rw [List.take_add_one, he, List.flatMap_append] at hx
          rcases List.mem_append.mp hx with h | h
          · exact hin x h
          · refine hin2 x ?_
            rw [← en]
            simpa using h
      · rintro σ H6 ⟨y2, y3, y5, y6, y7, rfl, s6, hin⟩
        rw [lvs, List.take_length] at hin
        refine q1 ?_ H6 (s1.trans s6)
        rw [due, List.find?_eq_none.mpr fun x hx => by simpa using hin x hx]
        rfl
    · skip
      refine ⟨_, rfl, b, vs, rfl, .inr ⟨hq, for_it walk_enumT (fun i σ H' => ∃ y1 y2 : Option V, σ = [some (.ref a), some (.ref b), y1, y2, none, none, none, none] ∧ Same H1 H' ∧ ∀ j e, j < i → ds[j]? = some e → mfD e = true) ⟨_, _, rfl, Same.refl H1, fun j e hj => absurd hj (Nat.not_lt_zero j)⟩ (fun i σ H' _ z => by obtain ⟨_, _, _, s, _⟩ := z; exact same_t s hq) ?_ ?_⟩⟩
      · rintro i x σ H2 H3 _ ⟨y1, y2, rfl, s2, hn⟩ ⟨T, x1, x2, rfl, nT, rfl, e1, e2⟩
        cases e1
        obtain ⟨e, he, re⟩ := (al.to s2).at e2
        have s3 := same_new (o := .tup [.int (i : Nat), x2]) nT
        refine ⟨T, _, rfl, .inl (.inl upd_same), rfl, _, _, rfl, _, _, rfl, rfl, ?_⟩
        refine ⟨_, rfl, x2, e, rfl, re.to s3, hlv e (List.mem_of_getElem? he), fun H4 s4 => ?_⟩
        have s5 := s2.trans (s3.trans s4)
        refine ⟨_, rfl, ite2 (fun hm => ?_) (fun hm => ?_)⟩
        · have hm' : mfD e = false := by simpa using hm
          refine ⟨_, rfl, ?_⟩
          exact new1 E_c_InvalidFact_init (by decide) (by decide) (.int (i : Int)) trivial fun cls dd v' H' s e' r => q2 _ _ (due_bad hi hl he hm' hn) cls dd v' H' ((s1.trans s5).trans s) e' r
        · have hm' : mfD e = true := by simpa using hm
          refine ⟨_, _, rfl, s5, fun j e' hj he' => ?_⟩
          rcases Nat.lt_succ_iff_lt_or_eq.mp hj with z | z
          · exact hn j e' z he'
          · rw [z, he] at he'
            cases he'
            exact hm'
      rintro σ H2 ⟨y1, y2, rfl, s2, hn⟩
      have hall : ∀ j e', ds[j]? = some e' → mfD e' = true := fun j e' he => hn j e' (by rw [al.len]; exact lt_of_get he) he
      have shp : ∀ (j : Nat) (x : V) (H' : Hp), Same H1 H' → vs[j]? = some x → ∃ (p q : Addr) (m t : Str) (rs : List Str), x = .ref p ∧ SqT K H' p [.str m, .ref q] ∧ SqT K H' q ((t :: rs).map V.str) ∧ isNm m = true ∧ (∀ x ∈ rs, isNm x = true) ∧ ∃ e, ds[j]? = some e ∧ markOf e = m ∧ namesOf e = rs := fun j x H' s hx => by
        obtain ⟨e, he, re⟩ := (al.to s).at hx
        obtain ⟨m, t, rs, rfl, nm, nr, em, en⟩ := mf_shape (hall j e he)
        cases re with
        | tup sq ty ra =>
          cases ra with
          | cons r1 ra =>
            cases r1
            cases ra with
            | cons r2 ra =>
              cases ra
              cases r2 with
              | tup sq2 ty2 ra2 =>
                have ev := ra2.isStrs
                subst ev
                exact ⟨_, _, m, t, rs, rfl, sq, sq2, nm, nr, _, he, em, en⟩
      -- the marks
      have lvs := al.len
      refine ⟨_, rfl, b, vs, rfl, .inr ⟨same_t s2 hq, fun L nL => ?_⟩⟩
      refine lc_tup (K := K) (a := b) (xs := vs) (fun i H4 => Same H2 H4 ∧ H4 L = some (.lst (((ds.map markOf).take i).map V.str))) ⟨same_new nL, upd_same⟩ (fun i H4 _ z => same_t (s2.trans z.1) hq) ?_ ?_
      · rintro i x H4 hx ⟨s4, e4⟩
        obtain ⟨p, q', m, t, rs, rfl, sq, _, _, _, e, he, em, _⟩ := shp i x H4 (s2.trans s4) hx
        refine ⟨p, _, rfl, sq, rfl, _, _, rfl, _, _, rfl, rfl, rfl, _, rfl, _, e4, slineL (by rw [List.length_map, List.length_take, List.length_map]; omega), same_mut s4 nL, ?_⟩
        rw [upd_same, take_succ_map (f := V.str) (x := m) (by rw [List.getElem?_map, he, ← em]; rfl)]
      rintro H4 ⟨s4, e4⟩
      rw [List.take_of_length_le (by rw [List.length_map, lvs]; exact Nat.le_refl _)] at e4
      have nmk : ∀ x ∈ ds.map markOf, isNm x = true := fun x hx => by
        obtain ⟨e, he, rfl⟩ := List.mem_map.mp hx
        obtain ⟨j, hj⟩ := List.getElem?_of_mem he
        obtain ⟨m, t, rs, _, nm, _, em, _⟩ := mf_shape (hall j e hj)
        rw [em]
        exact nm
      have s14 := s1.trans (s2.trans s4)
      refine ⟨L, ds.map markOf, rfl, .inl (.inl e4), by rw [List.length_map]; omega, nmk, fun hd H5 s5 => ?_, fun x hd cls dd v' H5 s5 ie rv' => q2 _ _ (due_dup hi hl hall hd) cls dd v' H5 (s14.trans s5) ie rv'⟩
      have s25 := s2.trans (s4.trans s5)
      have due := due_end (xs := xs) hi hl hall hd
      -- the names
      refine ⟨_, rfl, b, vs, rfl, .inr ⟨same_t s25 hq, for_tup (K := K) (a := b) (xs := vs) (fun i σ H' => ∃ y2 y3 y5 y6 y7 : Option V, σ = [some (.ref a), some (.ref b), y2, y3, none, y5, y6, y7] ∧ Same H1 H' ∧ ∀ x ∈ (ds.take i).flatMap namesOf, x ∈ xs) ⟨_, _, _, _, _, rfl, s25, fun x hx => nomatch hx⟩ (fun i σ H' _ z => by obtain ⟨_, _, _, _, _, _, s, _⟩ := z; exact same_t s hq) ?_ ?_⟩⟩
      · rintro i x σ H6 hx ⟨y2, y3, y5, y6, y7, rfl, s6, hin⟩
        obtain ⟨p, q', m, t, rs, rfl, sq, sq2, _, nr, e, he, em, en⟩ := shp i x H6 s6 hx
        refine ⟨p, _, rfl, sq, rfl, _, _, rfl, _, _, rfl, rfl, ?_⟩
        refine ⟨_, rfl, q', t :: rs, rfl, sq2, List.cons_ne_nil _ _, fun R H7 s7 nR eR => ?_⟩
        have s67 := s6.trans s7
        refine ⟨R, rfl, ⟨_, .inl (.inl eR)⟩, for_list (K := K) (a := R) (xs := rs.map V.str) (fun j σ H' => ∃ y7 : Option V, σ = [some (.ref a), some (.ref b), y2, y3, none, some (.str m), some (.ref q'), y7] ∧ Same H7 H' ∧ ∀ x ∈ rs.take j, x ∈ xs) ⟨_, rfl, Same.refl H7, fun x hx => nomatch hx⟩ (fun j σ H' _ z => by obtain ⟨_, _, s, _⟩ := z; exact .inl (.inl (s _ _ eR))) ?_ ?_⟩
        · rintro j y σ H8 hj ⟨y7', rfl, s8, hin2⟩
          obtain ⟨z, hz, rfl⟩ := getmap hj
          have s18 := s67.trans s8
          refine ⟨_, rfl, _, rfl, a, _, rfl, .inl ((s1.trans s18).seq ha), rfl, flatS _, _, rfl, ?_⟩
          rw [inS]
          refine ite2 (fun hm => ?_) (fun hm => ?_)
          · have hm' : z ∉ xs := by simpa using hm
            refine ⟨_, rfl, ?_⟩
            have erest : rs = rs.take j ++ z :: rs.drop (j + 1) := by
              have hlj := lt_of_get hz
              conv => lhs; rw [← List.take_append_drop j rs, List.drop_eq_getElem_cons hlj]
              rw [Option.some.inj ((List.getElem?_eq_getElem hlj).symm.trans hz)]
            have hd2 : fDue xs d = dueE "UnknownFind" (.str z) := by
              rw [due, flat_at he, en, erest, List.append_assoc, List.cons_append, ← List.append_assoc, find_split (fun y hy => ?_) (by simpa using hm')]
              · rfl
              · rcases List.mem_append.mp hy with h | h
                · simpa using hin y h
                · simpa using hin2 y h
            exact new1 E_c_UnknownFind_init (by decide) (by decide) (.str z) (lv_nm (n := 5) (nr z (List.mem_of_getElem? hz))) fun cls dd v' H' s e' r => q2 _ _ hd2 cls dd v' H' ((s1.trans s18).trans s) e' r
          · have hm' : z ∈ xs := by simpa using hm
            refine ⟨_, rfl, s8, fun x hx => ?_⟩
            rw [List.take_add_one, hz] at hx
            rcases List.mem_append.mp hx with h | h
            · exact hin2 x h
            · rw [List.mem_singleton.mp h]
              exact hm'
        · rintro σ H8 ⟨y7', rfl, s8, hin2⟩
          rw [List.length_map, List.take_length] at hin2
          refine ⟨_, _, _, _, _, rfl, s67.trans s8, fun x hx => ?_⟩
          rw [List.take_add_one, he, List.flatMap_append] at hx
          rcases List.mem_append.mp hx with h | h
          · exact hin x h
          · refine hin2 x ?_
            rw [← en]
            simpa using h
      · rintro σ H6 ⟨y2, y3, y5, y6, y7, rfl, s6, hin⟩
        rw [lvs, List.take_length] at hin
        refine q1 ?_ H6 (s1.trans s6)
        rw [due, List.find?_eq_none.mpr fun x hx => by simpa using hin x hx]
        rfl
end
end Th
namespace Th
open PySem PySem.Spec PyProof.Rows L2
abbrev s_p_is_before : Stmt := topS 51
theorem sc_p_is_before : FnScope ["value"] ["value"] (defScope s_p_is_before) := ⟨rfl, rfl, rfl, by decide +kernel, rfl, by decide +kernel, by decide +kernel⟩
/-- a tuple that says before, with two names -/
def befD : PyData → Bool
  | .tuple (d :: r) => eqS d "before" && r.length == 2 && r.all nmD
  | _ => false
def spBef (K : PySem.W.Frag) : Sp := fun vs H Q _ => ∃ (a : Addr) (xs : List V) (ds : List PyData), vs = [.ref a] ∧ SqT K H a xs ∧ DaAll K H xs ds ∧ Lv 5 (.tuple ds) ∧ ds ≠ [] ∧ ∀ H', Same H H' → Q (.bl (befD (.tuple ds))) H'
theorem cut1T (xs : List V) : cutV xs (some 1) none = xs.drop 1 := by
  unfold cutV
  rw [show HT.sIx xs.length 0 (some 1) = min 1 xs.length from HT.sIx_nat xs.length 0 1, HT.sIx_none]
  cases xs with
  | nil => rfl
  | cons x r =>
    rw [show min 1 (x :: r).length = 1 by rw [List.length_cons]; omega]
    show (List.take ((x :: r).length - 1) r) = r
    rw [List.length_cons, Nat.add_sub_cancel]
    exact List.take_length
section
variable {P : Program} {w : World} {K : PySem.W.Frag} {mg : Str → Option Value} {base : Heap} {CB : Addr}
theorem has_p_is_before (Z : Zs mg) (A : At K mg "_is_before" s_p_is_before ["value"]) (h_p_are_names : Has P w K mg base "are_names" s_p_are_names 2 ["values"] (spNmsT K)) : Has P w K mg base "_is_before" s_p_is_before 3 ["value"] (spBef K) := by
  obtain ⟨f, fd, F, mg1, bd⟩ := A
  obtain ⟨f_p_are_names, fd_p_are_names, G_p_are_names, m_p_are_names, k_p_are_names, b_p_are_names, F_p_are_names⟩ := h_p_are_names
  refine ⟨f, fd, ?_, mg1, F.kp, bd, F⟩
  refine F.ok sc_p_is_before (fun vs H Q E h => ?_) (fun cdv A outer s H vs Q E hr h => ?_)
  · obtain ⟨a, xs, ds, rfl, _⟩ := h
    rfl
  · obtain ⟨a, xs, ds, rfl, hs, ra, lv, hne, q⟩ := h
    refine ⟨_, (pss_one (ps_ret (pe_and (pe_cmpR op_eq (pe_callB call_len_seq (by rfl) Z.len_ (by decide +kernel) (pa_cons (pv 0) pa_nil)) pe_int (nomark _)) (pe_and (pe_cmpR (op_eqD hr.units) (pe_ix ix_tup (pv 0) pe_int (fun _ _ => rfl)) pe_str (nomark _)) (pe_one (pe_call G_p_are_names (hr.mono (by decide)) (by rfl) m_p_are_names k_p_are_names b_p_are_names .nil pass0 (pa_cons (pe_slice sl_tup (pv 0) (po_some pe_int) po_none) pa_nil))))))), ?_⟩
    have hl := ra.len
    have hl2 : ds.length ≤ 60 := lv.1
    refine ⟨_, rfl, a, xs, rfl, .inr hs, rfl, _, rfl, ?_⟩
    cases ds with
    | nil => exact absurd rfl hne
    | cons d r =>
      have hl' : xs.length = r.length + 1 := hl
      refine ite2 (fun h3 => ?_) (fun h3 => ?_)
      · have l3 : r.length = 2 := by
          have z : ((xs.length : Nat) : Int) = 3 := V.int.inj (of_decide_eq_true h3)
          omega
        obtain ⟨v, hv, rv⟩ := ra.at' (i := 0) (d := d) rfl
        refine ⟨_, rfl, a, xs, 0, v, rfl, rfl, hs, atI_of (by decide) hv, d, .str "before", Da.dp _ _ rv, .str _, (lv_head lv).shaped (by decide), (lv_of 0 _ (by decide +kernel) : Lv 0 (.str "before")).shaped (by decide), _, rfl, ?_⟩
        rw [eqv_str]
        refine ite2 (fun hb => ?_) (fun hb => ?_)
        · refine ⟨_, rfl, 1, rfl, a, xs, rfl, hs, ?_, fun p np => ?_⟩
          · rw [show HT.sIx xs.length 0 (some 1) = min 1 xs.length from HT.sIx_nat xs.length 0 1]
            omega
          · rw [cut1T]
            refine ⟨p, xs.drop 1, r, rfl, .inl (.inl upd_same), (ra.drop 1).to (same_new np), by omega, fun x hx => Lv.up _ _ (lv_in lv (List.mem_cons_of_mem _ hx)), fun H2 s2 => ?_⟩
            have e : befD (.tuple (d :: r)) = r.all nmD := by
              show (eqS d "before" && r.length == 2 && r.all nmD) = _
              rw [hb, l3]
              rfl
            rw [← e]
            exact q H2 ((same_new np).trans s2)
        · have e : befD (.tuple (d :: r)) = false := by
            show (eqS d "before" && r.length == 2 && r.all nmD) = false
            cases z : eqS d "before" with
            | true => exact absurd z hb
            | false => rfl
          have q1 := q H (Same.refl H)
          rw [e] at q1
          exact q1
      · have e : befD (.tuple (d :: r)) = false := by
          show (eqS d "before" && r.length == 2 && r.all nmD) = false
          have l3 : ¬ r.length = 2 := fun z => h3 (decide_eq_true (by rw [hl', z]; rfl))
          rw [show (r.length == 2) = false from beq_eq_false_iff_ne.mpr l3, Bool.and_false, Bool.false_and]
        have q1 := q H (Same.refl H)
        rw [e] at q1
        exact q1
end
end Th
namespace Th
open PySem PySem.Spec PyProof.Rows L2
abbrev s_p_is_statement : Stmt := topS 48
theorem sc_p_is_statement : FnScope ["value"] ["value"] (defScope s_p_is_statement) := ⟨rfl, rfl, rfl, by decide +kernel, rfl, by decide +kernel, by decide +kernel⟩
theorem befD_of (d : PyData) (r : List PyData) : befD (.tuple (d :: r)) = (eqS d "before" && r.length == 2 && r.all nmD) := rfl
/-- what a statement is, head by head -/
theorem stD_eq (d : PyData) (r : List PyData) : stD (.tuple (d :: r)) = if eqS d "lot" = true then (r.length == 1 && r.all lotD) else (PyData.eqv (.tuple (d :: r)) (.tuple [.str "never"]) || befD (.tuple (d :: r))) := by
  have e1 : PyData.eqv (.tuple (d :: r)) (.tuple [.str "never"]) = (eqS d "never" && r.isEmpty) := by
    have z : PyData.eqv (.tuple (d :: r)) (.tuple [.str "never"]) = (PyData.eqv d (.str "never") && PyData.eqvAll r []) := by simp [PyData.eqv, PyData.eqvAll]
    rw [z, eqv_str]
    cases r <;> simp [PyData.eqvAll]
  rw [e1, befD_of]
  cases d with
  | str h =>
    show (if h = "lot" then _ else if h = "before" then _ else _) = if (h == Str.ofString "lot") = true then _ else ((h == Str.ofString "never") && _ || (h == Str.ofString "before") && _ && _)
    have nb : ¬ (Str.ofString "before" = Str.ofString "never") := by decide +kernel
    by_cases h1 : h = "lot"
    · rw [if_pos h1, if_pos (beq_iff_eq.mpr h1)]
    · rw [if_neg h1, if_neg (fun z => h1 (beq_iff_eq.mp z))]
      by_cases h2 : h = "before"
      · rw [if_pos h2, h2, beq_self_eq_true, show (Str.ofString "before" == Str.ofString "never") = false from beq_eq_false_iff_ne.mpr nb]
        simp
      · rw [if_neg h2, show (h == Str.ofString "before") = false from beq_eq_false_iff_ne.mpr h2]
        simp only [Bool.false_and, Bool.or_false]
        congr 1
  | _ => simp [stD, eqS]
section
variable {P : Program} {w : World} {K : PySem.W.Frag} {mg : Str → Option Value} {base : Heap} {CB : Addr}
theorem has_p_is_statement (Z : Zs mg) (gN : ∃ c, mg "_NEVER" = some (.ref c) ∧ SqT K (fun _ => none) c [.str "never"]) (A : At K mg "is_statement" s_p_is_statement ["value"]) (h_p_is_lot : Has P w K mg base "is_lot" s_p_is_lot 3 ["value"] (spJ K 4 lotD)) (h_p_is_before : Has P w K mg base "_is_before" s_p_is_before 3 ["value"] (spBef K)) : Has P w K mg base "is_statement" s_p_is_statement 4 ["value"] (spJ K 5 stD) := by
  obtain ⟨f, fd, F, mg1, bd⟩ := A
  obtain ⟨f_p_is_lot, fd_p_is_lot, G_p_is_lot, m_p_is_lot, k_p_is_lot, b_p_is_lot, F_p_is_lot⟩ := h_p_is_lot
  obtain ⟨f_p_is_before, fd_p_is_before, G_p_is_before, m_p_is_before, k_p_is_before, b_p_is_before, F_p_is_before⟩ := h_p_is_before
  obtain ⟨cN, g_NEVER, hN⟩ := gN
  refine ⟨f, fd, ?_, mg1, F.kp, bd, F⟩
  refine F.ok sc_p_is_statement (fun vs H Q E h => ?_) (fun cdv A outer s H vs Q E hr h => ?_)
  · obtain ⟨v, d, rfl, _⟩ := h
    rfl
  · obtain ⟨v, d, rfl, r, lv, q⟩ := h
    have nd := r.nodict
    refine ⟨_, (pss_cons (ps_if (PW.pt (pw_or (pt_not (pt_val (pe_callB call_isi (by rfl) Z.isinstance_ (by decide +kernel) (pa_cons (pv 0) (pa_cons (pe_bltn (v := .ty "tuple") (by rfl) Z.tuple_ (by decide +kernel) rfl) pa_nil))))) (pw_or1 (pt_cmpR op_eq (pe_callB call_len_seq (by rfl) Z.len_ (by decide +kernel) (pa_cons (pv 0) pa_nil)) pe_int (nomark _))))) (pss_one (ps_ret pe_bl)) pss_nil) (pss_cons (ps_if (pt_cmpR (op_eqD hr.units) (pe_ix ix_tup (pv 0) pe_int (fun _ _ => rfl)) pe_str (nomark _)) (pss_one (ps_ret (pe_and (pe_cmpR op_eq (pe_callB call_len_seq (by rfl) Z.len_ (by decide +kernel) (pa_cons (pv 0) pa_nil)) pe_int (nomark _)) (pe_one (pe_call G_p_is_lot (hr.mono (by decide)) (by rfl) m_p_is_lot k_p_is_lot b_p_is_lot .nil pass0 (pa_cons (pe_ix ix_tup (pv 0) pe_int (fun _ _ => rfl)) pa_nil)))))) pss_nil) (pss_one (ps_ret (pe_or (pe_cmpR (op_eqD hr.units) (pv 0) (pe_glob (v := .ref cN) (by rfl) g_NEVER rfl) (nomark _)) (pe_one (pe_call G_p_is_before (hr.mono (by decide)) (by rfl) m_p_is_before k_p_is_before b_p_is_before .nil pass0 (pa_cons (pv 0) pa_nil)))))))), ?_⟩
    refine ⟨_, rfl, v, _, _, _, _, rfl, .ty "tuple", r.ty, kit_ty (kit_tuple d nd), _, rfl, ?_⟩
    cases d with
    | tuple ds =>
      cases r with
      | tup hs ht ra =>
        rename_i a xs
        have hl := ra.len
        have hl2 : ds.length ≤ 60 := lv.1
        refine iteF ?_
        refine ⟨_, rfl, a, xs, rfl, .inr hs, rfl, _, rfl, ?_⟩
        cases ds with
        | nil =>
          rw [hl, show decide (V.int (([] : List PyData).length : Int) = V.int 0) = true from decide_eq_true rfl]
          exact iteT (q H (Same.refl H))
        | cons d r =>
          have hl' : xs.length = r.length + 1 := hl
          refine ite2 (fun z => ?_) (fun _ => ?_)
          · have z : ((xs.length : Nat) : Int) = 0 := V.int.inj (of_decide_eq_true z)
            omega
          obtain ⟨v, hv, rv⟩ := ra.at' (i := 0) (d := d) rfl
          refine ⟨_, rfl, a, xs, 0, v, rfl, rfl, hs, atI_of (by decide) hv, d, .str "lot", Da.dp _ _ rv, .str _, (lv_head lv).shaped (by decide), (lv_of 0 _ (by decide +kernel) : Lv 0 (.str "lot")).shaped (by decide), _, rfl, ?_⟩
          rw [eqv_str]
          rw [stD_eq] at q
          refine ite2 (fun hb => ?_) (fun hb => ?_)
          · rw [if_pos hb] at q
            refine ⟨_, rfl, a, xs, rfl, .inr hs, rfl, _, rfl, ?_⟩
            refine ite2 (fun h2 => ?_) (fun h2 => ?_)
            · have z : ((xs.length : Nat) : Int) = 2 := V.int.inj (of_decide_eq_true h2)
              obtain ⟨x, rfl⟩ : ∃ x, r = [x] := by
                cases r with
                | nil => rw [List.length_nil] at hl'; omega
                | cons x t =>
                  cases t with
                  | nil => exact ⟨x, rfl⟩
                  | cons y t => rw [List.length_cons, List.length_cons] at hl'; omega
              obtain ⟨u, hu, ru⟩ := ra.at' (i := 1) (d := x) rfl
              refine ⟨_, rfl, a, xs, 1, u, rfl, rfl, hs, atI_of (by decide) hu, u, x, rfl, ru, lv_in lv (List.mem_cons_of_mem _ List.mem_cons_self), fun H1 s1 => ?_⟩
              have q1 := q H1 s1
              rw [show (([x] : List PyData).length == 1 && [x].all lotD) = lotD x by simp] at q1
              exact q1
            · have q1 := q H (Same.refl H)
              have l1 : ¬ r.length = 1 := fun z => h2 (decide_eq_true (by rw [hl', z]; rfl))
              rw [show (r.length == 1) = false from beq_eq_false_iff_ne.mpr l1, Bool.false_and] at q1
              exact q1
          · rw [if_neg hb] at q
            have hN2 : SqT K H cN [.str "never"] := same_t (fun b o (z : (none : Option HO) = some o) => by cases z) hN
            refine ⟨_, rfl, .tuple (d :: r), .tuple [.str "never"], .tup hs (DaAll.dp _ _ ra), .tup hN2 (.cons (.str _) .nil), lv.shaped (by decide), (lv_of 1 _ (by decide +kernel) : Lv 1 (.tuple [.str "never"])).shaped (by decide), _, rfl, ?_⟩
            cases he : PyData.eqv (.tuple (d :: r)) (.tuple [.str "never"]) with
            | true =>
              refine iteT ?_
              have q1 := q H (Same.refl H)
              rw [he, Bool.true_or] at q1
              exact q1
            | false =>
              refine iteF ?_
              refine ⟨_, rfl, a, xs, d :: r, rfl, hs, ra, lv, List.cons_ne_nil _ _, fun H1 s1 => ?_⟩
              have q1 := q H1 s1
              rw [he, Bool.false_or] at q1
              exact q1
    | _ => exact iteT (q H (Same.refl H))
end
end Th
namespace Th
open PySem PySem.Spec PyProof.Rows L2
abbrev s_p_is_number : Stmt := topS 19
theorem sc_p_is_number : FnScope ["value", "least", "most"] ["value", "least", "most"] (defScope s_p_is_number) := ⟨rfl, rfl, rfl, by decide +kernel, rfl, by decide +kernel, by decide +kernel⟩
/-- whether a datum is a whole number within bounds -/
def numD (lo hi : Int) : PyData → Bool
  | .int i => decide (lo ≤ i) && decide (i ≤ hi)
  | _ => false
def spNum (K : PySem.W.Frag) : Sp := fun vs H Q _ => ∃ (v : V) (lo hi : Int) (d : PyData), vs = [v, .int lo, .int hi] ∧ Da K H v d ∧ ∀ H', Same H H' → Q (.bl (numD lo hi d)) H'
section
variable {P : Program} {w : World} {K : PySem.W.Frag} {mg : Str → Option Value} {base : Heap} {CB : Addr}
theorem has_p_is_number (Z : Zs mg) (A : At K mg "is_number" s_p_is_number ["value", "least", "most"]) : Has P w K mg base "is_number" s_p_is_number 1 ["value", "least", "most"] (spNum K) := by
  obtain ⟨f, fd, F, mg1, bd⟩ := A
  refine ⟨f, fd, ?_, mg1, F.kp, bd, F⟩
  refine F.ok sc_p_is_number (fun vs H Q E h => ?_) (fun cdv A outer s H vs Q E hr h => ?_)
  · obtain ⟨v, lo, hi, d, rfl, _⟩ := h
    rfl
  · obtain ⟨v, lo, hi, d, rfl, r, q⟩ := h
    refine ⟨_, (pss_one (ps_ret (pe_and (pe_callB call_isi (by rfl) Z.isinstance_ (by decide +kernel) (pa_cons (pv 0) (pa_cons (pe_bltn (v := .ty "int") (by rfl) Z.int_ (by decide +kernel) rfl) pa_nil))) (pe_and (pe_not (pe_callB call_isi (by rfl) Z.isinstance_ (by decide +kernel) (pa_cons (pv 0) (pa_cons (pe_bltn (v := .ty "bool") (by rfl) Z.bool_ (by decide +kernel) rfl) pa_nil)))) (pe_one (pe_chain op_le op_le (pv 1) (pv 0) (pv 2))))))), ?_⟩
    refine ⟨_, rfl, v, _, _, _, _, rfl, .ty "int", r.ty, kit_ty (kit_int d r.nodict), _, rfl, ?_⟩
    cases d with
    | int i =>
      have hv : v = .int i := by
        cases r
        rfl
      subst hv
      refine iteT ?_
      refine ⟨_, rfl, _, _, _, _, _, rfl, .ty "bool", r.ty, kit_ty (kit_bool (.int i) r.nodict), _, rfl, _, rfl, iteT ?_⟩
      refine ⟨_, rfl, _, rfl, _, _, rfl, rfl, _, rfl, ite2 (fun h1 => ?_) (fun h1 => ?_)⟩
      · have h1' : lo ≤ i := of_decide_eq_true h1
        refine ⟨_, rfl, _, _, rfl, rfl, ?_⟩
        have e : decide (i ≤ hi) = numD lo hi (.int i) := by
          show _ = (decide (lo ≤ i) && decide (i ≤ hi))
          rw [decide_eq_true h1', Bool.true_and]
        show Q (.bl (decide (i ≤ hi))) H
        rw [e]
        exact q H (Same.refl H)
      · have e : false = numD lo hi (.int i) := by
          show _ = (decide (lo ≤ i) && decide (i ≤ hi))
          rw [decide_eq_false (fun z => h1 (decide_eq_true z)), Bool.false_and]
        show Q (.bl false) H
        rw [e]
        exact q H (Same.refl H)
    | bool b =>
      refine iteT ?_
      refine ⟨_, rfl, _, _, _, _, _, rfl, .ty "bool", r.ty, kit_ty (kit_bool (.bool b) r.nodict), _, rfl, _, rfl, iteF (q H (Same.refl H))⟩
    | _ => exact iteF (q H (Same.refl H))
end
end Th
namespace Th
open PySem PySem.Spec PyProof.Rows L2
abbrev s_p_is_entry : Stmt := topS 52
theorem sc_p_is_entry : FnScope ["value", "at", "statement", "rule", "elders", "elder"] ["value", "at"] (defScope s_p_is_entry) := ⟨rfl, rfl, rfl, by decide +kernel, rfl, by decide +kernel, by decide +kernel⟩
def ruleNs : List Str := ["single", "all", "word", "union", "common", "rest", "fact", "apart", "across", "chain", "bar", "self"]
/-- how many elders a rule has -/
def manyE (r : Str) : Option Nat := if r = "single" then some 0 else if r = "all" then some 0 else if r = "word" then some 1 else if r = "union" then some 2 else if r = "common" then some 2 else if r = "rest" then some 2
  else if r = "fact" then some 1 else if r = "apart" then some 3 else if r = "across" then some 3 else if r = "chain" then some 2 else if r = "bar" then some 3 else if r = "self" then some 1 else none
def ManyEOk (kvs : List (Str × Value)) : Prop := ∀ r k, manyE r = some k → ∃ t, lookE kvs r = some (.int (k : Int) t)
theorem manyE_in (r : Str) : decide (r ∈ ruleNs) = (manyE r).isSome := by
  unfold manyE ruleNs
  by_cases h1 : r = "single"
  · rw [if_pos h1, h1]; decide +kernel
  rw [if_neg h1]
  by_cases h2 : r = "all"
  · rw [if_pos h2, h2]; decide +kernel
  rw [if_neg h2]
  by_cases h3 : r = "word"
  · rw [if_pos h3, h3]; decide +kernel
  rw [if_neg h3]
  by_cases h4 : r = "union"
  · rw [if_pos h4, h4]; decide +kernel
  rw [if_neg h4]
  by_cases h5 : r = "common"
  · rw [if_pos h5, h5]; decide +kernel
  rw [if_neg h5]
  by_cases h6 : r = "rest"
  · rw [if_pos h6, h6]; decide +kernel
  rw [if_neg h6]
  by_cases h7 : r = "fact"
  · rw [if_pos h7, h7]; decide +kernel
  rw [if_neg h7]
  by_cases h8 : r = "apart"
  · rw [if_pos h8, h8]; decide +kernel
  rw [if_neg h8]
  by_cases h9 : r = "across"
  · rw [if_pos h9, h9]; decide +kernel
  rw [if_neg h9]
  by_cases h10 : r = "chain"
  · rw [if_pos h10, h10]; decide +kernel
  rw [if_neg h10]
  by_cases h11 : r = "bar"
  · rw [if_pos h11, h11]; decide +kernel
  rw [if_neg h11]
  by_cases h12 : r = "self"
  · rw [if_pos h12, h12]; decide +kernel
  rw [if_neg h12]
  exact decide_eq_false fun z => by
    simp only [List.mem_cons, List.not_mem_nil, or_false] at z
    rcases z with z | z | z | z | z | z | z | z | z | z | z | z
    · exact h1 z
    · exact h2 z
    · exact h3 z
    · exact h4 z
    · exact h5 z
    · exact h6 z
    · exact h7 z
    · exact h8 z
    · exact h9 z
    · exact h10 z
    · exact h11 z
    · exact h12 z
/-- what the elders of an entry may be -/
def eldD (n : Nat) (r : Str) (e : PyData) : Bool := match manyE r with
  | none => false
  | some k => match e with
    | .tuple es => decide (es.length = k) && (decide (r ∈ [Str.ofString "word", Str.ofString "fact"]) || es.all (numD 0 ((n : Int) - 1)))
    | _ => false
/-- a datum has the form of an entry -/
def entryD (n : Nat) : PyData → Bool
  | .tuple [s, .str r, e] => stD s && eldD n r e
  | _ => false
def spEntry (K : PySem.W.Frag) : Sp := fun vs H Q _ => ∃ (v : V) (n : Nat) (d : PyData), vs = [v, .int (n : Int)] ∧ Da K H v d ∧ Lv 6 d ∧ ∀ H', Same H H' → Q (.bl (entryD n d)) H'
theorem entryD_len {n : Nat} {ds : List PyData} (h : ds.length ≠ 3) : entryD n (.tuple ds) = false := by
  match ds, h with
  | [], _ => rfl
  | [_], _ => rfl
  | [_, b], _ => cases b <;> rfl
  | [_, _, _], h => exact absurd rfl h
  | _ :: b :: _ :: _ :: _, _ => cases b <;> rfl
section
variable {P : Program} {w : World} {K : PySem.W.Frag} {mg : Str → Option Value} {base : Heap} {CB : Addr}
theorem has_p_is_entry (Z : Zs mg) (gME : ∃ (d : Addr) (es : Array DictEntry) (n : Nat) (kvs : List (Str × Value)), mg "_MANY_ELDERS" = some (.ref d) ∧ KDict K w d es n ∧ (∀ z, PySem.W.nsIn K d z = some (lookE kvs z)) ∧ ManyEOk kvs) (gRU : ∃ c, mg "RULES" = some (.ref c) ∧ Da K (fun _ => none) (.ref c) (.tuple (ruleNs.map .str))) (gRM : ∃ c, mg "_RULES_WITH_A_MARK" = some (.ref c) ∧ SqT K (fun _ => none) c ([Str.ofString "word", Str.ofString "fact"].map V.str)) (A : At K mg "_is_entry" s_p_is_entry ["value", "at"]) (h_p_is_statement : Has P w K mg base "is_statement" s_p_is_statement 4 ["value"] (spJ K 5 stD)) (h_p_is_number : Has P w K mg base "is_number" s_p_is_number 1 ["value", "least", "most"] (spNum K)) : Has P w K mg base "_is_entry" s_p_is_entry 5 ["value", "at"] (spEntry K) := by
  obtain ⟨f, fd, F, mg1, bd⟩ := A
  obtain ⟨f_p_is_statement, fd_p_is_statement, G_p_is_statement, m_p_is_statement, k_p_is_statement, b_p_is_statement, F_p_is_statement⟩ := h_p_is_statement
  obtain ⟨f_p_is_number, fd_p_is_number, G_p_is_number, m_p_is_number, k_p_is_number, b_p_is_number, F_p_is_number⟩ := h_p_is_number
  obtain ⟨cE, eE, nE, kvs, g_ELD, KE, hE, okE⟩ := gME
  obtain ⟨cU, g_RULES, hU⟩ := gRU
  obtain ⟨cW, g_MARK, hW⟩ := gRM
  refine ⟨f, fd, ?_, mg1, F.kp, bd, F⟩
  refine F.ok sc_p_is_entry (fun vs H Q E h => ?_) (fun cdv A outer s H vs Q E hr h => ?_)
  · obtain ⟨v, n, d, rfl, _⟩ := h
    rfl
  · obtain ⟨v, n, d, rfl, r, lv, q⟩ := h
    have nd := r.nodict
    refine ⟨_, (pss_cons (ps_if (PW.pt (pw_or (pt_not (pt_val (pe_callB call_isi (by rfl) Z.isinstance_ (by decide +kernel) (pa_cons (pv 0) (pa_cons (pe_bltn (v := .ty "tuple") (by rfl) Z.tuple_ (by decide +kernel) rfl) pa_nil))))) (pw_or1 (pt_cmpR op_ne (pe_callB call_len_seq (by rfl) Z.len_ (by decide +kernel) (pa_cons (pv 0) pa_nil)) pe_int (nomark _))))) (pss_one (ps_ret pe_bl)) pss_nil) (pss_cons (ps_asg (pv 0) (pg_tup (by rfl) (pgs_cons (pg_name (i := 2) sc_p_is_entry.nd rfl (Or.inl rfl)) (pgs_cons (pg_name (i := 3) sc_p_is_entry.nd rfl (Or.inl rfl)) (pgs_cons (pg_name (i := 4) sc_p_is_entry.nd rfl (Or.inl rfl)) pgs_nil))))) (pss_cons (ps_if (PW.pt (pw_or (pt_not (pt_val (pe_call G_p_is_statement (hr.mono (by decide)) (by rfl) m_p_is_statement k_p_is_statement b_p_is_statement .nil pass0 (pa_cons (pv 2) pa_nil)))) (pw_or1 (pt_cmpR (op_notInT (hu65 hr)) (pv 3) (pe_glob (v := .ref cU) (by rfl) g_RULES rfl) (by rfl))))) (pss_one (ps_ret pe_bl)) pss_nil) (pss_cons (ps_if (PW.pt (pw_or (pt_not (pt_val (pe_callB call_isi (by rfl) Z.isinstance_ (by decide +kernel) (pa_cons (pv 4) (pa_cons (pe_bltn (v := .ty "tuple") (by rfl) Z.tuple_ (by decide +kernel) rfl) pa_nil))))) (pw_or1 (pt_cmpR op_ne (pe_callB call_len_seq (by rfl) Z.len_ (by decide +kernel) (pa_cons (pv 4) pa_nil)) (pe_ix (show IxR _ (rKd K cE) from ix_kd KE) (pe_glob (v := .ref cE) (by rfl) g_ELD rfl) (pv 3) (fun _ _ => rfl)) (nomark _))))) (pss_one (ps_ret pe_bl)) pss_nil) (pss_one (ps_ret (pe_or (pe_cmpR op_in_seq (pv 3) (pe_glob (v := .ref cW) (by rfl) g_MARK rfl) (by rfl)) (pe_one (pe_callB (cr_all rfl) (by rfl) Z.all_ (by decide +kernel) (pa_cons (pe_lc (own := [("elder", 5)]) (g := gName 5) (by rfl) sc_p_is_entry.nd (pi_tup (pv 4)) (blkOk_by (own := [("elder", 5)]) (N := ["value", "at", "statement", "rule", "elders", "elder"]) (sc := defScope s_p_is_entry) (by decide +kernel)) (fun _ _ _ _ _ => pg_name (i := 5) sc_p_is_entry.nd rfl (Or.inl rfl)) (fun _ _ _ _ _ => pts_nil) (fun _ _ _ _ _ => (pe_call G_p_is_number (hr.mono (by decide)) (by rfl) m_p_is_number k_p_is_number b_p_is_number .nil pass0 (pa_cons (pv 5) (pa_cons pe_int (pa_cons (pe_op op_sub (pv 1) pe_int) pa_nil)))))) pa_nil)))))))))), ?_⟩
    refine ⟨_, rfl, v, _, _, _, _, rfl, .ty "tuple", r.ty, kit_ty (kit_tuple d nd), _, rfl, ?_⟩
    cases d with
    | tuple ds =>
      cases r with
      | tup hs ht ra =>
        rename_i a xs
        have hl := ra.len
        refine iteF ?_
        refine ⟨_, rfl, a, xs, rfl, .inr hs, rfl, _, rfl, ?_⟩
        refine ite2 (fun h3 => ?_) (fun h3 => ?_)
        · have q1 := q H (Same.refl H)
          rw [entryD_len (fun z => by rw [hl, z] at h3; exact absurd h3 (by decide +kernel))] at q1
          exact q1
        obtain ⟨st, rr, e, rfl⟩ : ∃ st rr e, ds = [st, rr, e] := by
          have z : ((xs.length : Nat) : Int) = 3 := by
            have h3' : decide (V.int ((xs.length : Nat) : Int) = V.int 3) = true := by simpa using h3
            exact V.int.inj (of_decide_eq_true h3')
          exact len3 (by omega)
        obtain ⟨v0, v1, v2, rfl⟩ := len3 hl
        cases ra with
        | cons r0 ra =>
          cases ra with
          | cons r1 ra =>
            cases ra with
            | cons r2 ra =>
              clear h3 hl ra
              refine ⟨_, rfl, a, _, rfl, hs, rfl, _, _, rfl, _, _, rfl, _, _, rfl, rfl, ?_⟩
              refine ⟨_, rfl, v0, st, rfl, r0, lv_in lv List.mem_cons_self, fun H1 s1 => ⟨_, rfl, ite2 (fun hst => ?_) (fun hst => ?_)⟩⟩
              · have hst' : stD st = false := by simpa using hst
                have q1 := q H1 s1
                have e1 : entryD n (.tuple [st, rr, e]) = false := by
                  cases rr <;> first | rfl | (show (stD st && _) = false; rw [hst', Bool.false_and])
                rw [e1] at q1
                exact q1
              have hst' : stD st = true := by simpa using hst
              have hU2 : Da K H1 (.ref cU) (.tuple (ruleNs.map .str)) := hU.to (fun b o (z : (none : Option HO) = some o) => by cases z)
              refine ⟨_, rfl, rr, ruleNs.map .str, Da.dp _ _ (r1.to s1), Da.dp _ _ hU2, (lv_in lv (List.mem_cons_of_mem _ List.mem_cons_self) : Lv 5 rr).shaped (by decide), (lv_of 1 _ (by decide +kernel) : Lv 1 (.tuple (ruleNs.map .str))).shaped (by decide), _, rfl, ?_⟩
              rw [if_pos rfl, any_nm rr (r1.nodict)]
              have no : ∀ H', Same H H' → entryD n (.tuple [st, rr, e]) = false → Q (.bl false) H' := fun H' s' z => by
                have q1 := q H' s'
                rw [z] at q1
                exact q1
              cases rr with
              | str rs =>
                have e2 : inNm (.str rs) ruleNs = (manyE rs).isSome := by rw [← manyE_in]; rfl
                have e3 : entryD n (.tuple [st, .str rs, e]) = eldD n rs e := by show (stD st && _) = _; rw [hst', Bool.true_and]
                rw [e3] at q no
                unfold eldD at q no
                rw [e2]
                cases hk : manyE rs with
                | none => exact iteT (no H1 s1 (by rw [hk]))
                | some k =>
                  rw [hk] at q no
                  refine iteF ?_
                  refine ⟨_, rfl, v2, _, _, _, _, rfl, .ty "tuple", (r2.to s1).ty, kit_ty (kit_tuple e r2.nodict), _, rfl, ?_⟩
                  cases e with
                  | tuple es =>
                    cases r2 with
                    | tup hs2 ht2 ra2 =>
                      rename_i b ws
                      have hl2 := ra2.len
                      have hes : es.length ≤ 60 := (lv_in lv (List.mem_cons_of_mem _ (List.mem_cons_of_mem _ List.mem_cons_self))).1
                      refine iteF ?_
                      obtain ⟨t, ht⟩ := okE rs k hk
                      cases r1
                      refine ⟨_, rfl, b, ws, rfl, .inr (same_t s1 hs2), _, rfl, rs, _, .int (k : Int), rfl, rfl, (hE rs).trans (by rw [ht]), ⟨t, rfl⟩, rfl, _, rfl, ite2 (fun hn => ?_) (fun hn => ?_)⟩
                      · have hne : ¬ es.length = k := fun z => by
                          rw [hl2, z] at hn
                          simp at hn
                        exact no H1 s1 (by show (decide (es.length = k) && _) = false; rw [decide_eq_false hne, Bool.false_and])
                      have hlk : es.length = k := by
                        have h3' : decide (V.int ((ws.length : Nat) : Int) = V.int (k : Int)) = true := by simpa using hn
                        have := V.int.inj (of_decide_eq_true h3')
                        omega
                      have e4 : (match PyData.tuple es with | .tuple es => decide (es.length = k) && (decide (rs ∈ [Str.ofString "word", Str.ofString "fact"]) || es.all (numD 0 ((n : Int) - 1))) | _ => false) = (decide (rs ∈ [Str.ofString "word", Str.ofString "fact"]) || es.all (numD 0 ((n : Int) - 1))) := by
                        show (decide (es.length = k) && _) = _
                        rw [decide_eq_true hlk, Bool.true_and]
                      have q' : ∀ H', Same H H' → Q (.bl (decide (rs ∈ [Str.ofString "word", Str.ofString "fact"]) || es.all (numD 0 ((n : Int) - 1)))) H' := fun H' s' => by
                        have q1 := q H' s'
                        rw [← e4]
                        exact q1
                      clear q no e4
                      have hW2 : SqT K H1 cW ([Str.ofString "word", Str.ofString "fact"].map V.str) := same_t (fun b o (z : (none : Option HO) = some o) => by cases z) hW
                      refine ⟨_, rfl, cW, _, rfl, .inr hW2, rfl, flatS _, ?_⟩
                      rw [if_neg Bool.false_ne_true, inS]
                      refine ⟨_, rfl, ite2 (fun hm => ?_) (fun hm => ?_)⟩
                      · have q1 := q' H1 s1
                        rw [hm, Bool.true_or] at q1
                        exact q1
                      · refine ⟨_, rfl, b, rfl, ⟨_, same_t s1 hs2⟩, fun L nL => ?_⟩
                        refine lc_tup (K := K) (a := b) (xs := ws) (fun i H2 => Same H1 H2 ∧ H2 L = some (.lst (((es.take i).map (numD 0 ((n : Int) - 1))).map V.bl))) ⟨same_new nL, upd_same⟩ (fun i H2 _ z => same_t (s1.trans z.1) hs2) ?_ ?_
                        · rintro i x H2 hi ⟨s2, e5⟩
                          obtain ⟨d', hd', rd'⟩ := (ra2.to (s1.trans s2)).at hi
                          refine ⟨rfl, _, rfl, _, rfl, _, _, rfl, rfl, x, 0, (n : Int) - 1, d', rfl, rd', fun H3 s3 => ?_⟩
                          refine ⟨_, s3 _ _ e5, slineL (by rw [List.length_map, List.length_map, List.length_take]; omega), same_mut (s2.trans s3) nL, ?_⟩
                          rw [upd_same, take_succ_map hd', List.map_append]
                          rfl
                        · rintro H2 ⟨s2, e5⟩
                          rw [hl2, List.take_length] at e5
                          refine ⟨L, _, rfl, .inl (.inl e5), ?_⟩
                          have q1 := q' H2 (s1.trans s2)
                          rw [Bool.eq_false_iff.mpr hm, Bool.false_or] at q1
                          rw [List.all_map]
                          exact q1
                  | _ => exact iteT (no H1 s1 rfl)
              | _ => exact iteT (no H1 s1 rfl)
    | _ => exact iteT (q H (Same.refl H))
end
end Th
namespace Th
open PySem PySem.Spec PyProof.Rows L2
abbrev s_c_Book__marks : Stmt := inClass (topS 75) 10
theorem sc_c_Book__marks : FnScope ["self", "mark", "_"] ["self"] (defScope s_c_Book__marks) := ⟨rfl, rfl, rfl, by decide +kernel, rfl, by decide +kernel, by decide +kernel⟩
/-- the marks of a book's words -/
def spBMarks (K : PySem.W.Frag) (C : Addr) : Sp := fun vs H Q _ => ∃ (b : Addr) (ys : List Str) (ms : List (Str × List Str)), vs = [.ref b] ∧ BookW K H C b ys (ms.map wOf) ∧ ms.length ≤ 100 ∧ ∀ r H', Same H H' → H r = none → H' r = some (.lst ((ms.map (·.1)).map V.str)) → Q (.ref r) H'
section
variable {P : Program} {w : World} {K : PySem.W.Frag} {mg : Str → Option Value} {base : Heap} {CB : Addr}
theorem has_c_Book__marks {f : Addr} {fd : FuncData} {dvs : List V} (Z : Zs mg) (B : ClsF K mg CB "Book" ["_finds", "_words"]) (F : FunD K "_marks" "Book._marks" (defArgs s_c_Book__marks) (defBody s_c_Book__marks) (defScope s_c_Book__marks) dvs [] f fd) : FnOk P w K mg base (L2.CX P w) 1 f fd ["self"] (spBMarks K CB) := by
  refine F.ok (CX := L2.CX P w) sc_c_Book__marks (fun vs H Q E h => ?_) (fun cdv A outer s H vs Q E hr h => ?_)
  · obtain ⟨b, ys, ms, rfl, _⟩ := h
    rfl
  · obtain ⟨b, ys, ms, rfl, bk, hl, q⟩ := h
    refine ⟨_, (pss_one (ps_ret (pe_lc (own := [("mark", 1), ("_", 2)]) (g := gTup K 2 (gCons (gName 1) (gCons (gName 2) gNil))) (by rfl) sc_c_Book__marks.nd (pi_list (pe_fld (pv 0) rfl)) (blkOk_by (own := [("mark", 1), ("_", 2)]) (N := ["self", "mark", "_"]) (sc := defScope s_c_Book__marks) (by decide +kernel)) (fun _ _ _ _ _ => (pg_tup (by rfl) (pgs_cons (pg_name (i := 1) sc_c_Book__marks.nd rfl (Or.inl rfl)) (pgs_cons (pg_name (i := 2) sc_c_Book__marks.nd rfl (Or.inl rfl)) pgs_nil)))) (fun _ _ _ _ _ => pts_nil) (fun _ _ _ _ _ => (pv 1))))), ?_⟩
    obtain ⟨dx, fa, wa, us, e1, e2, e3, e4⟩ := bk.ex
    have lu := e4.len
    rw [List.length_map] at lu
    refine ⟨_, rfl, b, CB, dx, _, _, rfl, e1, B.cl, B.na _ (by decide), bk_w _ _, wa, rfl, ⟨_, .inl (.inl e3)⟩, fun L nL => ?_⟩
    refine lc_list (K := K) (a := wa) (xs := us) (fun i H2 => Same H H2 ∧ H2 L = some (.lst (((ms.take i).map (·.1)).map V.str))) ⟨same_new nL, upd_same⟩ (fun i H2 _ z => .inl (.inl (z.1 _ _ e3))) ?_ ?_
    · rintro i v H2 hi ⟨s2, e5⟩
      obtain ⟨d, hd, rd⟩ := (e4.to s2).at hi
      rw [List.getElem?_map] at hd
      obtain ⟨p, hp, rfl⟩ := Option.map_eq_some_iff.mp hd
      obtain ⟨x, y, rfl, hx, _⟩ := rd.wO
      refine ⟨x, _, rfl, hx, rfl, _, _, rfl, _, _, rfl, rfl, rfl, _, rfl, _, e5, slineL (by rw [List.length_map, List.length_map, List.length_take]; omega), same_mut s2 nL, ?_⟩
      rw [upd_same, take_succ_map hp, List.map_append]
      rfl
    · rintro H2 ⟨s2, e5⟩
      rw [lu, List.take_length] at e5
      exact q L H2 s2 nL e5
end
end Th
namespace Th
open PySem PySem.Spec PyProof.Rows L2
abbrev s_c_Book_contains : Stmt := inClass (topS 75) 13
theorem sc_c_Book_contains : FnScope ["self", "mark"] ["self", "mark"] (defScope s_c_Book_contains) := ⟨rfl, rfl, rfl, by decide +kernel, rfl, by decide +kernel, by decide +kernel⟩
/-- whether a name is a mark of a book -/
def spBHas (K : PySem.W.Frag) (C : Addr) : Sp := fun vs H Q _ => ∃ (b : Addr) (m : Str) (ys : List Str) (ms : List (Str × List Str)), vs = [.ref b, .str m] ∧ BookW K H C b ys (ms.map wOf) ∧ ms.length ≤ 100 ∧ ∀ H', Same H H' → Q (.bl (decide (m ∈ ms.map (·.1)))) H'
section
variable {P : Program} {w : World} {K : PySem.W.Frag} {mg : Str → Option Value} {base : Heap} {CB : Addr}
theorem has_c_Book_contains {f : Addr} {fd : FuncData} {dvs : List V} (Z : Zs mg) (B : ClsF K mg CB "Book" ["_finds", "_words"]) (F : FunD K "__contains__" "Book.__contains__" (defArgs s_c_Book_contains) (defBody s_c_Book_contains) (defScope s_c_Book_contains) dvs [] f fd) (h_c_Book__marks : HasM P w K mg base CB "_marks" 1 ["self"] (spBMarks K CB)) : FnOk P w K mg base (L2.CX P w) 2 f fd ["self", "mark"] (spBHas K CB) := by
  obtain ⟨f_c_Book__marks, fd_c_Book__marks, ME_c_Book__marks, G_c_Book__marks, b_c_Book__marks⟩ := h_c_Book__marks
  refine F.ok (CX := L2.CX P w) sc_c_Book_contains (fun vs H Q E h => ?_) (fun cdv A outer s H vs Q E hr h => ?_)
  · obtain ⟨b, m, ys, ms, rfl, _⟩ := h
    rfl
  · obtain ⟨b, m, ys, ms, rfl, bk, hl, q⟩ := h
    refine ⟨_, (pss_one (ps_ret (pe_cmpR op_in_seq (pv 1) (pe_meth0 (pv 0) B.cl ME_c_Book__marks G_c_Book__marks (hr.mono (by decide)) b_c_Book__marks .nil (passes_call (takes_of rfl rfl rfl rfl) fun _ _ _ _ h => h)) (by rfl)))), ?_⟩
    obtain ⟨dx, fa, wa, us, e1, e2, e3, e4⟩ := bk.ex
    refine ⟨_, rfl, _, rfl, b, dx, _, rfl, e1, rfl, b, ys, ms, rfl, bk, hl, fun r H1 s1 nr e5 => ?_⟩
    refine ⟨r, _, rfl, .inl (.inl (.inl e5)), rfl, flatS _, ?_⟩
    rw [if_neg Bool.false_ne_true, inS]
    exact q H1 s1
end
end Th
namespace Th
open PySem PySem.Spec PyProof.Rows L2
abbrev s_c_Book_lots : Stmt := inClass (topS 75) 3
theorem sc_c_Book_lots : FnScope ["self", "_", "lot"] ["self"] (defScope s_c_Book_lots) := ⟨rfl, rfl, rfl, by decide +kernel, rfl, by decide +kernel, by decide +kernel⟩
/-- the lots of a book's words -/
def spBLots (K : PySem.W.Frag) (C : Addr) : Sp := fun vs H Q _ => ∃ (b : Addr) (ys : List Str) (ms : List (Str × List Str)), vs = [.ref b] ∧ BookW K H C b ys (ms.map wOf) ∧ ms.length ≤ 100 ∧ ∀ r us H', Same H H' → H r = none → H' r = some (.lst us) → DaAll K H' us (ms.map fun p => .tuple (p.2.map .str)) → Q (.ref r) H'
section
variable {P : Program} {w : World} {K : PySem.W.Frag} {mg : Str → Option Value} {base : Heap} {CB : Addr}
theorem has_c_Book_lots {f : Addr} {fd : FuncData} {dvs : List V} (Z : Zs mg) (B : ClsF K mg CB "Book" ["_finds", "_words"]) (F : FunD K "lots" "Book.lots" (defArgs s_c_Book_lots) (defBody s_c_Book_lots) (defScope s_c_Book_lots) dvs [] f fd) : FnOk P w K mg base (L2.CX P w) 1 f fd ["self"] (spBLots K CB) := by
  refine F.ok (CX := L2.CX P w) sc_c_Book_lots (fun vs H Q E h => ?_) (fun cdv A outer s H vs Q E hr h => ?_)
  · obtain ⟨b, ys, ms, rfl, _⟩ := h
    rfl
  · obtain ⟨b, ys, ms, rfl, bk, hl, q⟩ := h
    refine ⟨_, (pss_one (ps_ret (pe_lc (own := [("_", 1), ("lot", 2)]) (g := gTup K 2 (gCons (gName 1) (gCons (gName 2) gNil))) (by rfl) sc_c_Book_lots.nd (pi_list (pe_fld (pv 0) rfl)) (blkOk_by (own := [("_", 1), ("lot", 2)]) (N := ["self", "_", "lot"]) (sc := defScope s_c_Book_lots) (by decide +kernel)) (fun _ _ _ _ _ => (pg_tup (by rfl) (pgs_cons (pg_name (i := 1) sc_c_Book_lots.nd rfl (Or.inl rfl)) (pgs_cons (pg_name (i := 2) sc_c_Book_lots.nd rfl (Or.inl rfl)) pgs_nil)))) (fun _ _ _ _ _ => pts_nil) (fun _ _ _ _ _ => (pv 2))))), ?_⟩
    obtain ⟨dx, fa, wa, us, e1, e2, e3, e4⟩ := bk.ex
    have lu := e4.len
    rw [List.length_map] at lu
    refine ⟨_, rfl, b, CB, dx, _, _, rfl, e1, B.cl, B.na _ (by decide), bk_w _ _, wa, rfl, ⟨_, .inl (.inl e3)⟩, fun L nL => ?_⟩
    refine lc_list (K := K) (a := wa) (xs := us) (fun i H2 => Same H H2 ∧ ∃ ws, H2 L = some (.lst ws) ∧ DaAll K H ws ((ms.take i).map fun p => .tuple (p.2.map .str))) ⟨same_new nL, [], upd_same, .nil⟩ (fun i H2 _ z => .inl (.inl (z.1 _ _ e3))) ?_ ?_
    · rintro i v H2 hi ⟨s2, ws, e5, da⟩
      obtain ⟨d, hd, rd⟩ := e4.at hi
      rw [List.getElem?_map] at hd
      obtain ⟨p, hp, rfl⟩ := Option.map_eq_some_iff.mp hd
      obtain ⟨x, y, rfl, hx, ry⟩ := rd.wO
      have lw := da.len
      have sm := same_mut (o := .lst (ws ++ [.ref y])) s2 nL
      refine ⟨x, _, rfl, same_t s2 hx, rfl, _, _, rfl, _, _, rfl, rfl, rfl, _, rfl, _, e5, slineL (by rw [lw, List.length_map, List.length_take]; omega), sm, _, upd_same, ?_⟩
      rw [take_succ_map hp]
      exact da.app (.cons ry .nil)
    · rintro H2 ⟨s2, ws, e5, da⟩
      rw [lu, List.take_length] at da
      exact q L ws H2 s2 nL e5 (da.to s2)
end
end Th
namespace Th
open PySem PySem.Spec PyProof.Rows L2
abbrev s_c_UnknownName_init : Stmt := inClass (topS 12) 0
theorem sc_c_UnknownName_init : FnScope ["self", "name"] ["self", "name"] (defScope s_c_UnknownName_init) := ⟨rfl, rfl, rfl, by decide +kernel, rfl, by decide +kernel, by decide +kernel⟩

section
variable {P : Program} {w : World} {K : PySem.W.Frag} {mg : Str → Option Value} {base : Heap} {CB : Addr}
theorem has_c_UnknownName_init {fI : Addr} {fd : FuncData} (Z : Zs mg) (F : Fun K "__init__" "UnknownName.__init__" s_c_UnknownName_init fI fd) (h_p_copied : Has P w K mg base "copied" s_p_copied 6 ["value"] (spCopy K 6)) : FnOk P w K mg base CX0 7 fI fd ["self", "name"] (spInit1 K "UnknownName" "name" 6) := by
  obtain ⟨f_p_copied, fd_p_copied, G_p_copied, m_p_copied, k_p_copied, b_p_copied, F_p_copied⟩ := h_p_copied
  refine F.ok sc_c_UnknownName_init (fun vs H Q E h => ?_) (fun cdv A outer s H vs Q E hr h => ?_)
  · obtain ⟨a, C, v, d, rfl, _⟩ := h
    rfl
  · obtain ⟨a, C, v, d, rfl, G, n1, n2, ea, rv, lv, q⟩ := h
    refine ⟨_, (pss_cons (ps_put (pv 0) (pe_call G_p_copied (hr.mono (by decide)) (by rfl) m_p_copied k_p_copied b_p_copied .nil pass0 (pa_cons (pv 1) pa_nil))) (pss_one (ps_put (pv 0) pe_str))), ?_⟩
    refine ⟨_, rfl, v, d, fun b => b = a, rfl, fun b hb => (by rw [hb, ea]; exact fun z => nomatch z), rv.kd fun b o e p => ?_, lv, fun v' H1 s1 rv' => ?_⟩
    · rw [hidS_out fun z => ?_]
      · exact e
      · rw [z, ea] at e
        exact p.1 _ (Option.some.inj e).symm
    · have ea1 := s1 _ _ ea
      refine ⟨_, rfl, a, C, rfl, G, n1, .inl ⟨ea1, fun dx nd ne => ?_⟩⟩
      refine ⟨_, rfl, a, C, rfl, G, n2, .inr ⟨dx, [("name", v')], upd_same, ?_, (by show 1 ≤ 900; decide), ?_⟩⟩
      · rw [upd_ne ne]; exact upd_same
      · exact q H1 v' dx s1 (rv'.to hidS_same) nd ne
end
end Th
namespace Th
open PySem PySem.Spec PyProof.Rows L2
abbrev s_c_Book_word : Stmt := inClass (topS 75) 4
theorem sc_c_Book_word : FnScope ["self", "mark"] ["self", "mark"] (defScope s_c_Book_word) := ⟨rfl, rfl, rfl, by decide +kernel, rfl, by decide +kernel, by decide +kernel⟩
/-- the lot of the word with a mark that a book has -/
def spBWord (K : PySem.W.Frag) (C : Addr) : Sp := fun vs H Q _ => ∃ (b : Addr) (m : Str) (ys : List Str) (ms : List (Str × List Str)), vs = [.ref b, .str m] ∧ BookW K H C b ys (ms.map wOf) ∧ ms.length ≤ 100 ∧ m ∈ ms.map (·.1) ∧
  ∀ (j : Nat) (p : Str × List Str) (y : V) H', ms[j]? = some p → p.1 = m → (∀ (i : Nat) p', i < j → ms[i]? = some p' → p'.1 ≠ m) → Da K H' y (.tuple (p.2.map .str)) → Same H H' → Q y H'
theorem first_mark {m : Str} : ∀ {ms : List (Str × List Str)}, m ∈ ms.map (·.1) → ∃ (j : Nat) (p : Str × List Str), ms[j]? = some p ∧ p.1 = m ∧ ∀ (i : Nat) p', i < j → ms[i]? = some p' → p'.1 ≠ m
  | [], h => nomatch h
  | p :: r, h => by
    by_cases e : p.1 = m
    · exact ⟨0, p, rfl, e, fun i p' hi => absurd hi (Nat.not_lt_zero i)⟩
    · have h' : m ∈ r.map (·.1) := by
        rcases List.mem_cons.mp h with z | z
        · exact absurd z.symm e
        · exact z
      obtain ⟨j, q, h1, h2, h3⟩ := first_mark h'
      refine ⟨j + 1, q, h1, h2, fun i p' hi hp => ?_⟩
      cases i with
      | zero => cases hp; exact e
      | succ i => exact h3 i p' (by omega) hp
section
variable {P : Program} {w : World} {K : PySem.W.Frag} {mg : Str → Option Value} {base : Heap} {CB : Addr}
theorem has_c_Book_word {f : Addr} {fd : FuncData} {dvs : List V} (Z : Zs mg) (B : ClsF K mg CB "Book" ["_finds", "_words"]) (F : FunD K "word" "Book.word" (defArgs s_c_Book_word) (defBody s_c_Book_word) (defScope s_c_Book_word) dvs [] f fd) (h_c_Book_contains : HasM P w K mg base CB "__contains__" 2 ["self", "mark"] (spBHas K CB)) (h_c_Book_lots : HasM P w K mg base CB "lots" 1 ["self"] (spBLots K CB)) (h_c_Book__marks : HasM P w K mg base CB "_marks" 1 ["self"] (spBMarks K CB)) (h_c_UnknownName_init : HasE P w K mg base "UnknownName" "UnknownName.__init__" s_c_UnknownName_init ["self", "name"] ["name", "code"] 7 (spInit1 K "UnknownName" "name" 6)) : FnOk P w K mg base (L2.CX P w) 9 f fd ["self", "mark"] (spBWord K CB) := by
  obtain ⟨f_c_Book_contains, fd_c_Book_contains, ME_c_Book_contains, G_c_Book_contains, b_c_Book_contains⟩ := h_c_Book_contains
  obtain ⟨f_c_Book_lots, fd_c_Book_lots, ME_c_Book_lots, G_c_Book_lots, b_c_Book_lots⟩ := h_c_Book_lots
  obtain ⟨f_c_Book__marks, fd_c_Book__marks, ME_c_Book__marks, G_c_Book__marks, b_c_Book__marks⟩ := h_c_Book__marks
  obtain ⟨C_c_UnknownName_init, fI_c_UnknownName_init, fd_c_UnknownName_init, E_c_UnknownName_init, G_c_UnknownName_init⟩ := h_c_UnknownName_init
  refine F.ok (CX := L2.CX P w) sc_c_Book_word (fun vs H Q E h => ?_) (fun cdv A outer s H vs Q E hr h => ?_)
  · obtain ⟨b, m, ys, ms, rfl, _⟩ := h
    rfl
  · obtain ⟨b, m, ys, ms, rfl, bk, hl, hm, q⟩ := h
    refine ⟨_, (pss_cons (ps_if (pt_cmpR (op_notInOwn ME_c_Book_contains G_c_Book_contains (hr.mono (by decide)) b_c_Book_contains (passes_call (takes_of rfl rfl rfl rfl) fun _ _ _ _ h => h)) (pv 1) (pv 0) (by rfl)) (pss_one (ps_raise rfl (takes_of rfl rfl rfl rfl) (pmk_new E_c_UnknownName_init.g E_c_UnknownName_init.ini E_c_UnknownName_init.tI G_c_UnknownName_init (hr.mono (by decide)) E_c_UnknownName_init.b (by rfl) E_c_UnknownName_init.m (pa_cons (pv 1) pa_nil)))) pss_nil) (pss_one (ps_ret (pe_ix ix_list (pe_meth0 (pv 0) B.cl ME_c_Book_lots G_c_Book_lots (hr.mono (by decide)) b_c_Book_lots .nil (passes_call (takes_of rfl rfl rfl rfl) fun _ _ _ _ h => h)) (pe_bm PySem.F.plainAttrs_list PySem.F.slot_list_index PySem.F.type_list_index (show MtR _ "list.index" (rIndex K) from mt_index) (pe_meth0 (pv 0) B.cl ME_c_Book__marks G_c_Book__marks (hr.mono (by decide)) b_c_Book__marks .nil (passes_call (takes_of rfl rfl rfl rfl) fun _ _ _ _ h => h)) (pa_cons (pv 1) pa_nil)) (fun _ _ => rfl))))), ?_⟩
    obtain ⟨dx, fa, wa, us, e1, e2, e3, e4⟩ := bk.ex
    refine ⟨_, rfl, _, rfl, b, dx, _, rfl, e1, b, m, ys, ms, rfl, bk, hl, fun H1 s1 => ⟨_, rfl, _, rfl, ?_⟩⟩
    rw [if_pos rfl, decide_eq_true hm]
    refine iteF ?_
    have bk1 := bk.to s1
    obtain ⟨j, p, h1, h2, h3⟩ := first_mark hm
    refine ⟨_, rfl, b, dx, _, rfl, s1 _ _ e1, rfl, b, ys, ms, rfl, bk1, hl, fun r ls H2 s2 nr er dl => ?_⟩
    refine ⟨_, rfl, b, dx, _, rfl, s2 _ _ (s1 _ _ e1), rfl, b, ys, ms, rfl, bk1.to s2, hl, fun r2 H3 s3 nr2 er2 => ?_⟩
    have lr := dl.len
    rw [List.length_map] at lr
    have lj := lt_of_get h1
    have s23 := s2.trans s3
    refine ⟨.inl ⟨rfl, _, .inl (.inl er2)⟩, _, rfl, r2, (ms.map (·.1)).map V.str, .str m, j, .str m, rfl, rfl, .inl (.inl er2), rfl, flatS _, ?_, by simp [eqV], fun i z' hi hz => ?_, ?_⟩
    · rw [List.getElem?_map, List.getElem?_map, h1]
      show some (V.str p.1) = _
      rw [h2]
    · obtain ⟨x, hx, rfl⟩ := getmap hz
      rw [List.getElem?_map] at hx
      obtain ⟨p', hp', rfl⟩ := Option.map_eq_some_iff.mp hx
      have := h3 i p' hi hp'
      simp [eqV, this]
    obtain ⟨y, hy, ry⟩ := (dl.to s3).at' (i := j) (d := .tuple (p.2.map .str)) (by rw [List.getElem?_map, h1]; rfl)
    refine ⟨r, ls, (j : Int), y, rfl, rfl, .inl (.inl (s3 _ _ er)), atI_of (Int.natCast_nonneg j) (by rw [Int.toNat_natCast]; exact hy), ?_⟩
    exact q j p y H3 h1 h2 h3 ry (s1.trans s23)
end
end Th
namespace Th
open PySem PySem.Spec PyProof.Rows L2
abbrev s_p_is_self : Stmt := topS 70
theorem sc_p_is_self : FnScope ["statement", "told"] ["statement", "told"] (defScope s_p_is_self) := ⟨rfl, rfl, rfl, by decide +kernel, rfl, by decide +kernel, by decide +kernel⟩
/-- no find stands before itself -/
def selfR : St → List St → Bool
  | .nev, [.bef x y] => decide (x = y)
  | _, _ => false
theorem nev_eqv (s : St) : PyData.eqv (stOf s) (.tuple [.str "never"]) = (match s with | .nev => true | _ => false) := by
  have e : ∀ (h : Str) (r : List PyData), PyData.eqv (.tuple (.str h :: r)) (.tuple [.str "never"]) = ((h == Str.ofString "never") && r.isEmpty) := fun h r => by
    have z : PyData.eqv (.tuple (.str h :: r)) (.tuple [.str "never"]) = (PyData.eqv (.str h) (.str "never") && PyData.eqvAll r []) := by simp [PyData.eqv, PyData.eqvAll]
    rw [z, eqv_str]
    cases r <;> simp [PyData.eqvAll, eqS]
  cases s with
  | lot xs => exact (e _ _).trans (by rw [show (Str.ofString "lot" == Str.ofString "never") = false from by decide +kernel]; rfl)
  | bef x y => exact (e _ _).trans (by rw [show (Str.ofString "before" == Str.ofString "never") = false from by decide +kernel]; rfl)
  | nev => exact (e _ _).trans (by decide +kernel)
theorem len1 {α : Type} {l : List α} (h : l.length = 1) : ∃ a, l = [a] := by
  match l, h with
  | [a], _ => exact ⟨a, rfl⟩
theorem st_shaped {s : St} (h : okSt s) : SeqAt.shaped (stOf s) = true := by
  have : Lv 2 (stOf s) := by
    cases s with
    | lot xs => exact ⟨by show 2 ≤ 60; decide, fun d hd => by
        rcases List.mem_cons.mp hd with e | hd
        · rw [e]; exact lv_of _ _ (by decide +kernel)
        · rw [List.mem_singleton.mp hd]; exact lv_lot h.2.1 h.2.2.2⟩
    | bef x y => exact ⟨by show 3 ≤ 60; decide, fun d hd => by
        rcases List.mem_cons.mp hd with e | hd
        · rw [e]; exact lv_of _ _ (by decide +kernel)
        rcases List.mem_cons.mp hd with e | hd
        · rw [e]; exact lv_nm h.1
        · rw [List.mem_singleton.mp hd]; exact lv_nm h.2⟩
    | nev => exact lv_of _ _ (by decide +kernel)
  exact this.shaped (by decide)
section
variable {P : Program} {w : World} {K : PySem.W.Frag} {mg : Str → Option Value} {base : Heap} {CB : Addr}
theorem has_p_is_self (Z : Zs mg) (gN : ∃ c, mg "_NEVER" = some (.ref c) ∧ SqT K (fun _ => none) c [.str "never"]) (A : At K mg "_is_self" s_p_is_self ["statement", "told"]) (h_p_are_befores : Has P w K mg base "_are_befores" s_p_are_befores 1 ["told"] (spSts K fun ts => ts.all isBef)) : Has P w K mg base "_is_self" s_p_is_self 2 ["statement", "told"] (spDrawn K 1 selfR) := by
  obtain ⟨f, fd, F, mg1, bd⟩ := A
  obtain ⟨f_p_are_befores, fd_p_are_befores, G_p_are_befores, m_p_are_befores, k_p_are_befores, b_p_are_befores, F_p_are_befores⟩ := h_p_are_befores
  obtain ⟨cN, g_NEVER, hN⟩ := gN
  refine ⟨f, fd, ?_, mg1, F.kp, bd, F⟩
  refine F.ok sc_p_is_self (fun vs H Q E h => ?_) (fun cdv A outer s H vs Q E hr h => ?_)
  · obtain ⟨v, a, us, st, ts, rfl, _⟩ := h
    rfl
  · obtain ⟨v, a, us, st, ts, rfl, rv, okst, ha, al, okts, hl, q⟩ := h
    refine ⟨_, (pss_one (ps_ret (pe_and (pe_cmpR (op_eqD hr.units) (pv 0) (pe_glob (v := .ref cN) (by rfl) g_NEVER rfl) (nomark _)) (pe_and (pe_call G_p_are_befores (hr.mono (by decide)) (by rfl) m_p_are_befores k_p_are_befores b_p_are_befores .nil pass0 (pa_cons (pv 1) pa_nil)) (pe_one (pe_cmpR op_eq (pe_ix ix_tup (pe_ix ix_list (pv 1) pe_int (fun _ _ => rfl)) pe_int (fun _ _ => rfl)) (pe_ix ix_tup (pe_ix ix_list (pv 1) pe_int (fun _ _ => rfl)) pe_int (fun _ _ => rfl)) (nomark _))))))), ?_⟩
    obtain ⟨s0, rfl⟩ := len1 hl
    have hN2 : SqT K H cN [.str "never"] := same_t (fun b o (z : (none : Option HO) = some o) => by cases z) hN
    refine ⟨_, rfl, stOf st, .tuple [.str "never"], Da.dp _ _ rv, .tup hN2 (.cons (.str _) .nil), st_shaped okst, (lv_of 1 _ (by decide +kernel) : Lv 1 (.tuple [.str "never"])).shaped (by decide), _, rfl, ?_⟩
    rw [nev_eqv]
    cases st with
    | nev =>
      refine iteT ?_
      refine ⟨_, rfl, a, us, [s0], rfl, ha, al, by show 1 ≤ 60; decide, fun H1 t1 => ⟨_, rfl, ?_⟩⟩
      cases s0 with
      | bef x y =>
        refine iteT ?_
        obtain ⟨v0, g0, r0⟩ := (al.to t1).at' (i := 0) (d := stOf (.bef x y)) rfl
        obtain ⟨b0, rfl, hb0⟩ := r0.stB
        refine ⟨_, rfl, a, us, 0, _, rfl, rfl, t1.seq ha, atI_of (by decide) g0, b0, _, 1, .str x, rfl, rfl, hb0, rfl, ?_⟩
        refine ⟨_, rfl, a, us, 0, _, rfl, rfl, t1.seq ha, atI_of (by decide) g0, b0, _, 2, .str y, rfl, rfl, hb0, rfl, rfl, ?_⟩
        have q1 := q H1 t1
        rw [show selfR .nev [.bef x y] = decide (x = y) from rfl] at q1
        have e : decide (V.str x = V.str y) = decide (x = y) := by
          rw [Bool.eq_iff_iff, decide_eq_true_iff, decide_eq_true_iff]
          exact ⟨fun z => V.str.inj z, fun z => by rw [z]⟩
        rw [e]
        exact q1
      | _ => exact iteF (q H1 t1)
    | _ => exact iteF (q H (Same.refl H))
end
end Th
namespace Th
open PySem PySem.Spec PyProof.Rows L2
abbrev s_p_is_word : Stmt := topS 56
theorem sc_p_is_word : FnScope ["book", "facts", "statement", "elders"] ["book", "facts", "statement", "elders"] (defScope s_p_is_word) := ⟨rfl, rfl, rfl, by decide +kernel, rfl, by decide +kernel, by decide +kernel⟩
/-- a word of the book says its lot -/
def wordR (ms : List (Str × List Str)) (m : Str) (st : St) : Bool := match ms.find? fun p => decide (p.1 = m) with
  | some p => PyData.eqv (stOf st) (stOf (.lot p.2))
  | none => false
def okW (p : Str × List Str) : Prop := isNm p.1 = true ∧ okSt (.lot p.2)
def spWordR (K : PySem.W.Frag) (C : Addr) : Sp := fun vs H Q _ => ∃ (b el : Addr) (fv v : V) (m : Str) (ys : List Str) (ms : List (Str × List Str)) (st : St), vs = [.ref b, fv, v, .ref el] ∧ BookW K H C b ys (ms.map wOf) ∧ ms.length ≤ 100 ∧ (∀ p ∈ ms, okW p) ∧ Da K H v (stOf st) ∧ okSt st ∧ SqT K H el [.str m] ∧ ∀ H', Same H H' → Q (.bl (wordR ms m st)) H'
theorem find_mark {m : Str} {ms : List (Str × List Str)} {j : Nat} {p : Str × List Str} (h1 : ms[j]? = some p) (h2 : p.1 = m) (h3 : ∀ (i : Nat) p', i < j → ms[i]? = some p' → p'.1 ≠ m) : (ms.find? fun p => decide (p.1 = m)) = some p := by
  induction ms generalizing j with
  | nil => cases h1
  | cons q r ih =>
    cases j with
    | zero =>
      cases h1
      rw [List.find?_cons, decide_eq_true h2]
    | succ j =>
      rw [List.find?_cons, decide_eq_false (h3 0 q (Nat.succ_pos _) rfl)]
      exact ih (j := j) h1 fun i p' hi hp => h3 (i + 1) p' (by omega) hp
section
variable {P : Program} {w : World} {K : PySem.W.Frag} {mg : Str → Option Value} {base : Heap} {CB : Addr}
theorem has_p_is_word (Z : Zs mg) (B : ClsF K mg CB "Book" ["_finds", "_words"]) (A : At K mg "_is_word" s_p_is_word ["book", "facts", "statement", "elders"]) (h_c_Book_contains : HasM P w K mg base CB "__contains__" 2 ["self", "mark"] (spBHas K CB)) (h_c_Book_word : HasM P w K mg base CB "word" 9 ["self", "mark"] (spBWord K CB)) : Has P w K mg base "_is_word" s_p_is_word 10 ["book", "facts", "statement", "elders"] (spWordR K CB) := by
  obtain ⟨f, fd, F, mg1, bd⟩ := A
  obtain ⟨f_c_Book_contains, fd_c_Book_contains, ME_c_Book_contains, G_c_Book_contains, b_c_Book_contains⟩ := h_c_Book_contains
  obtain ⟨f_c_Book_word, fd_c_Book_word, ME_c_Book_word, G_c_Book_word, b_c_Book_word⟩ := h_c_Book_word
  refine ⟨f, fd, ?_, mg1, F.kp, bd, F⟩
  refine F.ok sc_p_is_word (fun vs H Q E h => ?_) (fun cdv A outer s H vs Q E hr h => ?_)
  · obtain ⟨b, el, fv, v, m, ys, ms, st, rfl, _⟩ := h
    rfl
  · obtain ⟨b, el, fv, v, m, ys, ms, st, rfl, bk, hl, okm, rv, okst, hel, q⟩ := h
    refine ⟨_, (pss_one (ps_ret (pe_and (pe_cmpR (op_inOwn ME_c_Book_contains G_c_Book_contains (hr.mono (by decide)) b_c_Book_contains passF) (pe_ix ix_tup (pv 3) pe_int (fun _ _ => rfl)) (pv 0) (by rfl)) (pe_one (pe_cmpR (op_eqD hr.units) (pv 2) (pe_tup (pa_cons pe_str (pa_cons (pe_meth (pv 0) B.cl ME_c_Book_word G_c_Book_word (hr.mono (by decide)) b_c_Book_word .nil passF (pa_cons (pe_ix ix_tup (pv 3) pe_int (fun _ _ => rfl)) pa_nil)) pa_nil))) (nomark _)))))), ?_⟩
    obtain ⟨dx, fa, wa, us, e1, e2, e3, e4⟩ := bk.ex
    refine ⟨_, rfl, el, _, 0, .str m, rfl, rfl, hel, rfl, _, rfl, b, dx, _, rfl, e1, b, m, ys, ms, rfl, bk, hl, fun H1 s1 => ⟨_, rfl, _, rfl, ?_⟩⟩
    rw [if_neg Bool.false_ne_true]
    refine ite2 (fun hm => ?_) (fun hm => ?_)
    · have hm' : m ∈ ms.map (·.1) := of_decide_eq_true hm
      refine ⟨_, rfl, _, rfl, b, dx, _, rfl, s1 _ _ e1, rfl, _, rfl, el, _, 0, .str m, rfl, rfl, same_t s1 hel, rfl, b, m, ys, ms, rfl, bk.to s1, hl, hm', fun j p y H2 h1 h2 h3 ry s2 => ?_⟩
      refine ⟨by show 2 ≤ sizeLine; decide, fun T nT => ?_⟩
      have s3 := same_new (o := .tup [.str "lot", y]) nT
      have okp := okm p (List.mem_of_getElem? h1)
      refine ⟨stOf st, stOf (.lot p.2), Da.dp _ _ ((rv.to (s1.trans s2)).to s3), .tup (.inl (.inl upd_same)) (.cons (.str _) (.cons (Da.dp _ _ (ry.to s3)) .nil)), st_shaped okst, st_shaped okp.2, ?_⟩
      have q1 := q _ ((s1.trans s2).trans s3)
      unfold wordR at q1
      rw [find_mark h1 h2 h3] at q1
      exact q1
    · have hm' : m ∉ ms.map (·.1) := of_decide_eq_false (Bool.eq_false_iff.mpr hm)
      have q1 := q H1 s1
      unfold wordR at q1
      rw [List.find?_eq_none.mpr fun p hp z => hm' (List.mem_map.mpr ⟨p, hp, of_decide_eq_true z⟩)] at q1
      exact q1
end
end Th
namespace Th
open PySem PySem.Spec PyProof.Rows L2
abbrev s_p_says : Stmt := topS 58
theorem sc_p_says : FnScope ["fact", "x", "y"] ["fact", "x", "y"] (defScope s_p_says) := ⟨rfl, rfl, rfl, by decide +kernel, rfl, by decide +kernel, by decide +kernel⟩
/-- what a fact says of two finds -/
def saysB (t : Str) (r : List Str) (x y : Str) : Bool :=
  if t = "first" then (decide (r.head? = some x) && decide (y ≠ x)) else if t = "last" then (decide (r.head? = some y) && decide (y ≠ x)) else PyData.eqv (.tuple ((t :: r).map .str)) (stOf (.bef x y))
def spSays (K : PySem.W.Frag) : Sp := fun vs H Q _ => ∃ (p : Addr) (t : Str) (r : List Str) (x y : Str), vs = [.ref p, .str x, .str y] ∧ SqT K H p ((t :: r).map V.str) ∧ r ≠ [] ∧ Lv 3 (.tuple ((t :: r).map .str)) ∧ isNm x = true ∧ isNm y = true ∧ ∀ H', Same H H' → Q (.bl (saysB t r x y)) H'
theorem dec_str (a b : Str) : decide (V.str a = V.str b) = decide (a = b) := by
  rw [Bool.eq_iff_iff, decide_eq_true_iff, decide_eq_true_iff]
  exact ⟨fun z => V.str.inj z, fun z => by rw [z]⟩
section
variable {P : Program} {w : World} {K : PySem.W.Frag} {mg : Str → Option Value} {base : Heap} {CB : Addr}
theorem has_p_says (Z : Zs mg) (A : At K mg "_says" s_p_says ["fact", "x", "y"]) : Has P w K mg base "_says" s_p_says 1 ["fact", "x", "y"] (spSays K) := by
  obtain ⟨f, fd, F, mg1, bd⟩ := A
  refine ⟨f, fd, ?_, mg1, F.kp, bd, F⟩
  refine F.ok sc_p_says (fun vs H Q E h => ?_) (fun cdv A outer s H vs Q E hr h => ?_)
  · obtain ⟨p, t, r, x, y, rfl, _⟩ := h
    rfl
  · obtain ⟨p, t, r, x, y, rfl, hp, hne, lv, nx, ny, q⟩ := h
    refine ⟨_, (pss_cons (ps_if (pt_cmpR op_eq (pe_ix ix_tup (pv 0) pe_int (fun _ _ => rfl)) pe_str (nomark _)) (pss_one (ps_ret (pe_and (pe_cmpR op_eq (pv 1) (pe_ix ix_tup (pv 0) pe_int (fun _ _ => rfl)) (nomark _)) (pe_one (pe_cmpR op_ne (pv 2) (pv 1) (nomark _)))))) pss_nil) (pss_cons (ps_if (pt_cmpR op_eq (pe_ix ix_tup (pv 0) pe_int (fun _ _ => rfl)) pe_str (nomark _)) (pss_one (ps_ret (pe_and (pe_cmpR op_eq (pv 2) (pe_ix ix_tup (pv 0) pe_int (fun _ _ => rfl)) (nomark _)) (pe_one (pe_cmpR op_ne (pv 2) (pv 1) (nomark _)))))) pss_nil) (pss_one (ps_ret (pe_cmpR (op_eqD hr.units) (pv 0) (pe_tup (pa_cons pe_str (pa_cons (pv 1) (pa_cons (pv 2) pa_nil)))) (nomark _)))))), ?_⟩
    obtain ⟨z, r', rfl⟩ : ∃ z r', r = z :: r' := by
      cases r with
      | nil => exact absurd rfl hne
      | cons z r' => exact ⟨z, r', rfl⟩
    have q1 := q H (Same.refl H)
    unfold saysB at q1
    refine ⟨_, rfl, p, _, 0, .str t, rfl, rfl, hp, atI_of (by decide) rfl, rfl, _, rfl, ?_⟩
    rw [dec_str]
    refine ite2 (fun h1 => ?_) (fun h1 => ?_)
    · rw [if_pos (of_decide_eq_true h1)] at q1
      refine ⟨_, rfl, _, rfl, p, _, 1, .str z, rfl, rfl, hp, atI_of (by decide) rfl, rfl, _, rfl, ?_⟩
      rw [dec_str]
      refine ite2 (fun h2 => ?_) (fun h2 => ?_)
      · have e2 := of_decide_eq_true h2
        refine ⟨_, rfl, _, rfl, rfl, ?_⟩
        rw [decide_eq_true (show (z :: r').head? = some x by rw [e2]; rfl), Bool.true_and] at q1
        show Q (.bl (!decide (V.str y = V.str x))) H
        rw [dec_str, ← decide_not]
        exact q1
      · have e2 := of_decide_eq_false (Bool.eq_false_iff.mpr h2)
        rw [decide_eq_false (show ¬ (z :: r').head? = some x from fun w => e2 (Option.some.inj w).symm), Bool.false_and] at q1
        exact q1
    · rw [if_neg (of_decide_eq_false (Bool.eq_false_iff.mpr h1))] at q1
      refine ⟨_, rfl, p, _, 0, .str t, rfl, rfl, hp, atI_of (by decide) rfl, rfl, _, rfl, ?_⟩
      rw [dec_str]
      refine ite2 (fun h3 => ?_) (fun h3 => ?_)
      · rw [if_pos (of_decide_eq_true h3)] at q1
        refine ⟨_, rfl, _, rfl, p, _, 1, .str z, rfl, rfl, hp, atI_of (by decide) rfl, rfl, _, rfl, ?_⟩
        rw [dec_str]
        refine ite2 (fun h2 => ?_) (fun h2 => ?_)
        · have e2 := of_decide_eq_true h2
          refine ⟨_, rfl, _, rfl, rfl, ?_⟩
          rw [decide_eq_true (show (z :: r').head? = some y by rw [e2]; rfl), Bool.true_and] at q1
          show Q (.bl (!decide (V.str y = V.str x))) H
          rw [dec_str, ← decide_not]
          exact q1
        · have e2 := of_decide_eq_false (Bool.eq_false_iff.mpr h2)
          rw [decide_eq_false (show ¬ (z :: r').head? = some y from fun w => e2 (Option.some.inj w).symm), Bool.false_and] at q1
          exact q1
      · rw [if_neg (of_decide_eq_false (Bool.eq_false_iff.mpr h3))] at q1
        refine ⟨_, rfl, _, rfl, _, rfl, by show 3 ≤ sizeLine; decide, fun T nT => ?_⟩
        have sT := same_new (o := .tup [.str "before", .str x, .str y]) nT
        refine ⟨.tuple ((t :: z :: r').map .str), stOf (.bef x y), .tup (same_t sT hp) (DaAll.dp _ _ (DaAll.strs _)), .tup (.inl (.inl upd_same)) (.cons (.str _) (.cons (.str _) (.cons (.str _) .nil))), lv.shaped (by decide), st_shaped (s := .bef x y) ⟨nx, ny⟩, ?_⟩
        have q2 := q _ sT
        unfold saysB at q2
        rw [if_neg (of_decide_eq_false (Bool.eq_false_iff.mpr h1)), if_neg (of_decide_eq_false (Bool.eq_false_iff.mpr h3))] at q2
        exact q2
end
end Th
namespace Th
open PySem PySem.Spec PyProof.Rows L2
abbrev s_c_Book_finds : Stmt := inClass (topS 75) 1
theorem sc_c_Book_finds : FnScope ["self"] ["self"] (defScope s_c_Book_finds) := ⟨rfl, rfl, rfl, by decide +kernel, rfl, by decide +kernel, by decide +kernel⟩
/-- the finds of a book, in a new list -/
def spBFindsW (K : PySem.W.Frag) (C : Addr) : Sp := fun vs H Q _ => ∃ (b : Addr) (ys : List Str) (ws : List PyData), vs = [.ref b] ∧ BookW K H C b ys ws ∧ ∀ r, H r = none → Q (.ref r) (upd H r (.lst (ys.map V.str)))
section
variable {P : Program} {w : World} {K : PySem.W.Frag} {mg : Str → Option Value} {base : Heap} {CB : Addr}
theorem has_c_Book_finds {f : Addr} {fd : FuncData} {dvs : List V} (Z : Zs mg) (B : ClsF K mg CB "Book" ["_finds", "_words"]) (F : FunD K "finds" "Book.finds" (defArgs s_c_Book_finds) (defBody s_c_Book_finds) (defScope s_c_Book_finds) dvs [] f fd) : FnOk P w K mg base (L2.CX P w) 1 f fd ["self"] (spBFindsW K CB) := by
  refine F.ok (CX := L2.CX P w) sc_c_Book_finds (fun vs H Q E h => ?_) (fun cdv A outer s H vs Q E hr h => ?_)
  · obtain ⟨b, ys, ws, rfl, _⟩ := h
    rfl
  · obtain ⟨b, ys, ws, rfl, bk, q⟩ := h
    refine ⟨_, (pss_one (ps_ret (pe_callTy call_list_of (by rfl) Z.list_ (by decide +kernel) (pa_cons (pe_fld (pv 0) rfl) pa_nil)))), ?_⟩
    obtain ⟨dx, fa, wa, vs, e1, e2, e3, e4⟩ := bk.ex
    exact ⟨_, rfl, b, CB, dx, _, _, rfl, e1, B.cl, B.na _ (by decide), bk_f _ _, fa, _, rfl, .inl (.inl (.inl e2)), fun r nr => q r nr⟩
end
end Th
namespace Th
open PySem PySem.Spec PyProof.Rows L2
abbrev s_p_is_of_fact : Stmt := topS 57
theorem sc_p_is_of_fact : FnScope ["book", "facts", "statement", "elders", "said", "mark", "fact"] ["book", "facts", "statement", "elders"] (defScope s_p_is_of_fact) := ⟨rfl, rfl, rfl, by decide +kernel, rfl, by decide +kernel, by decide +kernel⟩
def saysF (f : List Str) (x y : Str) : Bool := match f with
  | t :: r => saysB t r x y
  | [] => false
/-- a fact with the mark says it, of finds of the book -/
def factR (ys : List Str) (fs : List (Str × List Str)) (m : Str) : St → Bool
  | .bef x y => ((fs.filter fun p => decide (p.1 = m)).any fun p => saysF p.2 x y) && ([x, y].all fun z => decide (z ∈ ys))
  | _ => false
def okF (p : Str × List Str) : Prop := (∃ t r, p.2 = t :: r ∧ r ≠ []) ∧ Lv 3 (.tuple (p.2.map .str))
def spOfFact (K : PySem.W.Frag) (C : Addr) : Sp := fun vs H Q _ => ∃ (b el fa : Addr) (v : V) (m : Str) (ys : List Str) (ws : List PyData) (us : List V) (fs : List (Str × List Str)) (st : St), vs = [.ref b, .ref fa, v, .ref el] ∧ BookW K H C b ys ws ∧ (SqL K H fa us ∨ SqT K H fa us) ∧ DaAll K H us (fs.map wOf) ∧ fs.length ≤ 60 ∧ (∀ p ∈ fs, okF p) ∧ Da K H v (stOf st) ∧ okSt st ∧ SqT K H el [.str m] ∧ ∀ H', Same H H' → Q (.bl (factR ys fs m st)) H'
section
variable {P : Program} {w : World} {K : PySem.W.Frag} {mg : Str → Option Value} {base : Heap} {CB : Addr}
theorem has_p_is_of_fact (Z : Zs mg) (B : ClsF K mg CB "Book" ["_finds", "_words"]) (A : At K mg "_is_of_fact" s_p_is_of_fact ["book", "facts", "statement", "elders"]) (h_p_says : Has P w K mg base "_says" s_p_says 1 ["fact", "x", "y"] (spSays K)) (h_p_is_within : Has P w K mg base "is_within" s_p_is_within 1 ["one", "other"] (spWithin K)) (h_c_Book_finds : HasM P w K mg base CB "finds" 1 ["self"] (spBFindsW K CB)) : Has P w K mg base "_is_of_fact" s_p_is_of_fact 3 ["book", "facts", "statement", "elders"] (spOfFact K CB) := by
  obtain ⟨f, fd, F, mg1, bd⟩ := A
  obtain ⟨f_p_says, fd_p_says, G_p_says, m_p_says, k_p_says, b_p_says, F_p_says⟩ := h_p_says
  obtain ⟨f_p_is_within, fd_p_is_within, G_p_is_within, m_p_is_within, k_p_is_within, b_p_is_within, F_p_is_within⟩ := h_p_is_within
  obtain ⟨f_c_Book_finds, fd_c_Book_finds, ME_c_Book_finds, G_c_Book_finds, b_c_Book_finds⟩ := h_c_Book_finds
  refine ⟨f, fd, ?_, mg1, F.kp, bd, F⟩
  refine F.ok sc_p_is_of_fact (fun vs H Q E h => ?_) (fun cdv A outer s H vs Q E hr h => ?_)
  · obtain ⟨b, el, fa, v, m, ys, ws, us, fs, st, rfl, _⟩ := h
    rfl
  · obtain ⟨b, el, fa, v, m, ys, ws, us, fs, st, rfl, bk, hfa, dfs, hlf, okf, rv, okst, hel, q⟩ := h
    refine ⟨_, (pss_cons (ps_if (pt_cmpR op_ne (pe_ix ix_tup (pv 2) pe_int (fun _ _ => rfl)) pe_str (nomark _)) (pss_one (ps_ret pe_bl)) pss_nil) (pss_cons (ps_setLc (i := 4) (own := [("mark", 5), ("fact", 6)]) (g := gTup K 2 (gCons (gName 5) (gCons (gName 6) gNil))) (by rfl) sc_p_is_of_fact.nd rfl rfl (sw_true rfl rfl rfl (by decide +kernel)) (pi_LT (pv 1)) (blkOk_by (own := [("mark", 5), ("fact", 6)]) (N := ["book", "facts", "statement", "elders", "said", "mark", "fact"]) (sc := defScope s_p_is_of_fact) (by decide +kernel)) (fun _ _ _ _ _ => (pg_tup (by rfl) (pgs_cons (pg_name (i := 5) sc_p_is_of_fact.nd rfl (Or.inl rfl)) (pgs_cons (pg_name (i := 6) sc_p_is_of_fact.nd rfl (Or.inl rfl)) pgs_nil)))) (fun _ _ _ _ _ => (pts_one (pt_cmpR op_eq (pv 5) (pe_ix (show IxR _ (rIxT K) from ix_tup) (pv 3) pe_int (fun _ _ => rfl)) (nomark _)))) (fun _ _ _ _ _ => (pe_call G_p_says (hr.mono (by decide)) (by rfl) m_p_says k_p_says b_p_says .nil pass0 (pa_cons (pv 6) (pa_cons (pe_ix (show IxR _ (rIxT K) from ix_tup) (pv 2) pe_int (fun _ _ => rfl)) (pa_cons (pe_ix (show IxR _ (rIxT K) from ix_tup) (pv 2) pe_int (fun _ _ => rfl)) pa_nil)))))) (pss_one (ps_ret (pe_and (pe_callB (cr_any rfl) (by rfl) Z.any_ (by decide +kernel) (pa_cons (pv 4) pa_nil)) (pe_one (pe_call G_p_is_within (hr.mono (by decide)) (by rfl) m_p_is_within k_p_is_within b_p_is_within .nil pass0 (pa_cons (pe_slice sl_tupD (pv 2) (po_some pe_int) po_none) (pa_cons (pe_meth0 (pv 0) B.cl ME_c_Book_finds G_c_Book_finds (hr.mono (by decide)) b_c_Book_finds .nil passF) pa_nil))))))))), ?_⟩
    obtain ⟨a0, us0, rfl, ha0, h00⟩ := rv.stH
    refine ⟨_, rfl, a0, us0, 0, _, rfl, rfl, ha0, atI_of (by decide) h00, rfl, _, rfl, ?_⟩
    rw [hd_bef]
    refine ite2 (fun hb => ?_) (fun hb => ?_)
    · have hb' : isBef st = false := by simpa using hb
      have q1 := q H (Same.refl H)
      cases st with
      | bef x y => cases hb'
      | _ => exact q1
    cases st with
    | lot _ => exact absurd rfl hb
    | nev => exact absurd rfl hb
    | bef x y =>
      obtain ⟨bs, e0, tv⟩ := rv.stBT
      cases e0
      have lus := dfs.len
      rw [List.length_map] at lus
      clear hb
      rcases hfa with hfa | hfa
      · skip
        refine ⟨_, rfl, fa, us, rfl, .inl ⟨hfa, fun L nL => ?_⟩⟩
        refine lc_list (K := K) (a := fa) (xs := us) (fun i H2 => Same H H2 ∧ H2 L = some (.lst ((((fs.take i).filter fun p => decide (p.1 = m)).map fun p => saysF p.2 x y).map V.bl))) ⟨same_new nL, upd_same⟩ (fun i H2 _ z => Same.seq z.1 hfa) ?_ ?_
        · rintro i nv H2 hi ⟨s2, e5⟩
          obtain ⟨d, hd, rd⟩ := (dfs.to s2).at hi
          rw [List.getElem?_map] at hd
          obtain ⟨p, hp, rfl⟩ := Option.map_eq_some_iff.mp hd
          obtain ⟨c1, c2, rfl, hc1, rc2⟩ := rd.wO
          have sc2 : SqT K H2 c2 (p.2.map V.str) := by
            cases rc2 with
            | tup s2' _ r3 => rw [r3.isStrs] at s2'; exact s2'
          obtain ⟨⟨t, r, ep, hr0⟩, lvp⟩ := okf p (List.mem_of_getElem? hp)
          refine ⟨c1, _, rfl, hc1, rfl, _, _, rfl, _, _, rfl, rfl, rfl, ?_⟩
          refine ⟨_, rfl, _, rfl, el, _, 0, .str m, rfl, rfl, same_t s2 hel, rfl, rfl, _, rfl, ?_⟩
          have stp := filterStep (p := fun p : Str × List Str => decide (p.1 = m)) hp
          rw [dec_str]
          refine ite2 (fun hm => ?_) (fun hm => ?_)
          · refine ⟨_, rfl, _, rfl, a0, _, 1, .str x, rfl, rfl, same_t s2 tv.1, atI_of (by decide) rfl, _, rfl, a0, _, 2, .str y, rfl, rfl, same_t s2 tv.1, atI_of (by decide) rfl, c2, t, r, x, y, rfl, by rw [← ep]; exact sc2, hr0, by rw [← ep]; exact lvp, okst.1, okst.2, fun H3 s3 => ?_⟩
            refine ⟨_, s3 _ _ e5, slineL (by rw [List.length_map, List.length_map]; have := List.length_filter_le (fun p : Str × List Str => decide (p.1 = m)) (fs.take i); rw [List.length_take] at this; omega), same_mut (s2.trans s3) nL, ?_⟩
            rw [upd_same, stp, if_pos hm, List.map_append, List.map_append, show saysB t r x y = saysF p.2 x y by rw [ep]; rfl]
            rfl
          · exact ⟨s2, by rw [e5, stp, if_neg hm, List.append_nil]⟩
        rintro H2 ⟨s2, e5⟩
        rw [lus, List.take_length] at e5
        refine ⟨_, rfl, L, _, rfl, .inl (.inl e5), _, rfl, ?_⟩
        have q1 := fun H' (s' : Same H H') => q H' s'
        refine ite2 (fun hA => ?_) (fun hA => ?_)
        · refine ⟨_, rfl, 1, rfl, a0, _, rfl, tv.to s2, fun R H3 s3 _ e3 => ?_⟩
          have ecut : cutV [V.str "before", .str x, .str y] (some 1) none = [x, y].map V.str := rfl
          rw [ecut] at e3
          obtain ⟨dx, fa2, wa, us2, k1, k2, k3, k4⟩ := bk.ex
          have s23 := s2.trans s3
          refine ⟨_, rfl, b, dx, _, rfl, s23 _ _ k1, rfl, b, ys, ws, rfl, bk.to s23, fun r nr => ?_⟩
          have s4 := same_new (o := .lst (ys.map V.str)) nr
          refine ⟨R, r, [x, y], ys, rfl, (e3.to s4).1, .inl (.inl (.inl upd_same)), by show 2 ≤ 60; decide, fun c H5 hc s5 => ?_⟩
          have q2 := q1 H5 (s23.trans (s4.trans s5))
          have hA' : ((fs.filter fun p => decide (p.1 = m)).any fun p => saysF p.2 x y) = true := by rw [List.any_map] at hA; exact hA
          have hc' : ([x, y].all fun z => decide (z ∈ ys)) = c := by
            rw [Bool.eq_iff_iff, hc, List.all_eq_true]
            exact ⟨fun z w hw => of_decide_eq_true (z w hw), fun z w hw => decide_eq_true (z w hw)⟩
          rw [show factR ys fs m (.bef x y) = (((fs.filter fun p => decide (p.1 = m)).any fun p => saysF p.2 x y) && ([x, y].all fun z => decide (z ∈ ys))) from rfl, hA', hc', Bool.true_and] at q2
          exact q2
        · have q2 := q1 H2 s2
          have hA' : ((fs.filter fun p => decide (p.1 = m)).any fun p => saysF p.2 x y) = false := Bool.eq_false_iff.mpr fun z => hA (by rw [List.any_map]; exact z)
          rw [show factR ys fs m (.bef x y) = (((fs.filter fun p => decide (p.1 = m)).any fun p => saysF p.2 x y) && ([x, y].all fun z => decide (z ∈ ys))) from rfl, hA', Bool.false_and] at q2
          exact q2
      · skip
        refine ⟨_, rfl, fa, us, rfl, .inr ⟨hfa, fun L nL => ?_⟩⟩
        refine lc_tup (K := K) (a := fa) (xs := us) (fun i H2 => Same H H2 ∧ H2 L = some (.lst ((((fs.take i).filter fun p => decide (p.1 = m)).map fun p => saysF p.2 x y).map V.bl))) ⟨same_new nL, upd_same⟩ (fun i H2 _ z => same_t z.1 hfa) ?_ ?_
        · rintro i nv H2 hi ⟨s2, e5⟩
          obtain ⟨d, hd, rd⟩ := (dfs.to s2).at hi
          rw [List.getElem?_map] at hd
          obtain ⟨p, hp, rfl⟩ := Option.map_eq_some_iff.mp hd
          obtain ⟨c1, c2, rfl, hc1, rc2⟩ := rd.wO
          have sc2 : SqT K H2 c2 (p.2.map V.str) := by
            cases rc2 with
            | tup s2' _ r3 => rw [r3.isStrs] at s2'; exact s2'
          obtain ⟨⟨t, r, ep, hr0⟩, lvp⟩ := okf p (List.mem_of_getElem? hp)
          refine ⟨c1, _, rfl, hc1, rfl, _, _, rfl, _, _, rfl, rfl, rfl, ?_⟩
          refine ⟨_, rfl, _, rfl, el, _, 0, .str m, rfl, rfl, same_t s2 hel, rfl, rfl, _, rfl, ?_⟩
          have stp := filterStep (p := fun p : Str × List Str => decide (p.1 = m)) hp
          rw [dec_str]
          refine ite2 (fun hm => ?_) (fun hm => ?_)
          · refine ⟨_, rfl, _, rfl, a0, _, 1, .str x, rfl, rfl, same_t s2 tv.1, atI_of (by decide) rfl, _, rfl, a0, _, 2, .str y, rfl, rfl, same_t s2 tv.1, atI_of (by decide) rfl, c2, t, r, x, y, rfl, by rw [← ep]; exact sc2, hr0, by rw [← ep]; exact lvp, okst.1, okst.2, fun H3 s3 => ?_⟩
            refine ⟨_, s3 _ _ e5, slineL (by rw [List.length_map, List.length_map]; have := List.length_filter_le (fun p : Str × List Str => decide (p.1 = m)) (fs.take i); rw [List.length_take] at this; omega), same_mut (s2.trans s3) nL, ?_⟩
            rw [upd_same, stp, if_pos hm, List.map_append, List.map_append, show saysB t r x y = saysF p.2 x y by rw [ep]; rfl]
            rfl
          · exact ⟨s2, by rw [e5, stp, if_neg hm, List.append_nil]⟩
        rintro H2 ⟨s2, e5⟩
        rw [lus, List.take_length] at e5
        refine ⟨_, rfl, L, _, rfl, .inl (.inl e5), _, rfl, ?_⟩
        have q1 := fun H' (s' : Same H H') => q H' s'
        refine ite2 (fun hA => ?_) (fun hA => ?_)
        · refine ⟨_, rfl, 1, rfl, a0, _, rfl, tv.to s2, fun R H3 s3 _ e3 => ?_⟩
          have ecut : cutV [V.str "before", .str x, .str y] (some 1) none = [x, y].map V.str := rfl
          rw [ecut] at e3
          obtain ⟨dx, fa2, wa, us2, k1, k2, k3, k4⟩ := bk.ex
          have s23 := s2.trans s3
          refine ⟨_, rfl, b, dx, _, rfl, s23 _ _ k1, rfl, b, ys, ws, rfl, bk.to s23, fun r nr => ?_⟩
          have s4 := same_new (o := .lst (ys.map V.str)) nr
          refine ⟨R, r, [x, y], ys, rfl, (e3.to s4).1, .inl (.inl (.inl upd_same)), by show 2 ≤ 60; decide, fun c H5 hc s5 => ?_⟩
          have q2 := q1 H5 (s23.trans (s4.trans s5))
          have hA' : ((fs.filter fun p => decide (p.1 = m)).any fun p => saysF p.2 x y) = true := by rw [List.any_map] at hA; exact hA
          have hc' : ([x, y].all fun z => decide (z ∈ ys)) = c := by
            rw [Bool.eq_iff_iff, hc, List.all_eq_true]
            exact ⟨fun z w hw => of_decide_eq_true (z w hw), fun z w hw => decide_eq_true (z w hw)⟩
          rw [show factR ys fs m (.bef x y) = (((fs.filter fun p => decide (p.1 = m)).any fun p => saysF p.2 x y) && ([x, y].all fun z => decide (z ∈ ys))) from rfl, hA', hc', Bool.true_and] at q2
          exact q2
        · have q2 := q1 H2 s2
          have hA' : ((fs.filter fun p => decide (p.1 = m)).any fun p => saysF p.2 x y) = false := Bool.eq_false_iff.mpr fun z => hA (by rw [List.any_map]; exact z)
          rw [show factR ys fs m (.bef x y) = (((fs.filter fun p => decide (p.1 = m)).any fun p => saysF p.2 x y) && ([x, y].all fun z => decide (z ∈ ys))) from rfl, hA', Bool.false_and] at q2
          exact q2
end
end Th
namespace Th
open PySem PySem.Spec PyProof.Rows L2
abbrev s_p_is_apart : Stmt := topS 65
theorem sc_p_is_apart : FnScope ["statement", "told", "one", "other", "_", "x", "y"] ["statement", "told"] (defScope s_p_is_apart) := ⟨rfl, rfl, rfl, by decide +kernel, rfl, by decide +kernel, by decide +kernel⟩
/-- what two lots without a common name say of two pairs of finds -/
def apartR : St → List St → Bool
  | .bef x y, [.lot xs, .lot zs, .bef u v] => (xs.all fun x => !decide (x ∈ zs)) && ([(u, v), (x, y)].all fun p => decide (p.1 ∈ xs) && decide (p.2 ∈ zs))
  | _, _ => false
theorem apart_no {st s0 s1 s2 : St} (h : [s0, s1].all isLot = false ∨ [s2, st].all isBef = false) : apartR st [s0, s1, s2] = false := by
  cases st <;> cases s0 <;> cases s1 <;> cases s2 <;> first | rfl | skip
  rcases h with h | h
  · cases h
  · cases h
theorem two_lot {s t : St} (h : [s, t].all isLot = true) : ∃ xs zs, s = .lot xs ∧ t = .lot zs := by
  cases s with
  | lot xs =>
    cases t with
    | lot zs => exact ⟨xs, zs, rfl, rfl⟩
    | _ => cases h
  | _ => cases h
section
variable {P : Program} {w : World} {K : PySem.W.Frag} {mg : Str → Option Value} {base : Heap} {CB : Addr}
theorem has_p_is_apart (Z : Zs mg) (A : At K mg "_is_apart" s_p_is_apart ["statement", "told"]) (h_p_have_lots : Has P w K mg base "_have_lots" s_p_have_lots 1 ["told"] (spSts K fun ts => ts.all isLot)) (h_p_are_befores : Has P w K mg base "_are_befores" s_p_are_befores 1 ["told"] (spSts K fun ts => ts.all isBef)) (h_p_are_apart : Has P w K mg base "are_apart" s_p_are_apart 1 ["one", "other"] (spApart K)) : Has P w K mg base "_is_apart" s_p_is_apart 3 ["statement", "told"] (spDrawn K 3 apartR) := by
  obtain ⟨f, fd, F, mg1, bd⟩ := A
  obtain ⟨f_p_have_lots, fd_p_have_lots, G_p_have_lots, m_p_have_lots, k_p_have_lots, b_p_have_lots, F_p_have_lots⟩ := h_p_have_lots
  obtain ⟨f_p_are_befores, fd_p_are_befores, G_p_are_befores, m_p_are_befores, k_p_are_befores, b_p_are_befores, F_p_are_befores⟩ := h_p_are_befores
  obtain ⟨f_p_are_apart, fd_p_are_apart, G_p_are_apart, m_p_are_apart, k_p_are_apart, b_p_are_apart, F_p_are_apart⟩ := h_p_are_apart
  refine ⟨f, fd, ?_, mg1, F.kp, bd, F⟩
  refine F.ok sc_p_is_apart (fun vs H Q E h => ?_) (fun cdv A outer s H vs Q E hr h => ?_)
  · obtain ⟨v, a, us, st, ts, rfl, _⟩ := h
    rfl
  · obtain ⟨v, a, us, st, ts, rfl, rv, okst, ha, al, okts, hl, q⟩ := h
    refine ⟨_, (pss_cons (ps_if (PW.pt (pw_or (pt_not (pt_val (pe_call G_p_have_lots (hr.mono (by decide)) (by rfl) m_p_have_lots k_p_have_lots b_p_have_lots .nil pass0 (pa_cons (pe_slice sl_list (pv 1) po_none (po_some pe_int)) pa_nil)))) (pw_or1 (pt_not (pt_val (pe_call G_p_are_befores (hr.mono (by decide)) (by rfl) m_p_are_befores k_p_are_befores b_p_are_befores .nil pass0 (pa_cons (pe_lst (pa_cons (pe_ix ix_list (pv 1) pe_int (fun _ _ => rfl)) (pa_cons (pv 0) pa_nil))) pa_nil))))))) (pss_one (ps_ret pe_bl)) pss_nil) (pss_cons (ps_asg (pe_tup (pa_cons (pe_ix ix_tup (pe_ix ix_list (pv 1) pe_int (fun _ _ => rfl)) pe_int (fun _ _ => rfl)) (pa_cons (pe_ix ix_tup (pe_ix ix_list (pv 1) pe_int (fun _ _ => rfl)) pe_int (fun _ _ => rfl)) pa_nil))) (pg_tup (by rfl) (pgs_cons (pg_name (i := 2) sc_p_is_apart.nd rfl (Or.inr rfl)) (pgs_cons (pg_name (i := 3) sc_p_is_apart.nd rfl (Or.inr rfl)) pgs_nil)))) (pss_one (ps_ret (pe_and (pe_call G_p_are_apart (hr.mono (by decide)) (by rfl) m_p_are_apart k_p_are_apart b_p_are_apart .nil pass0 (pa_cons (pv 2) (pa_cons (pv 3) pa_nil))) (pe_one (pe_callB (cr_all rfl) (by rfl) Z.all_ (by decide +kernel) (pa_cons (pe_lc (own := [("_", 4), ("x", 5), ("y", 6)]) (g := gTup K 3 (gCons (gName 4) (gCons (gName 5) (gCons (gName 6) gNil)))) (by rfl) sc_p_is_apart.nd (pi_tup (pe_tup (pa_cons (pe_ix ix_list (pv 1) pe_int (fun _ _ => rfl)) (pa_cons (pv 0) pa_nil)))) (blkOk_by (own := [("_", 4), ("x", 5), ("y", 6)]) (N := ["statement", "told", "one", "other", "_", "x", "y"]) (sc := defScope s_p_is_apart) (by decide +kernel)) (fun _ _ _ _ _ => (pg_tup (by rfl) (pgs_cons (pg_name (i := 4) sc_p_is_apart.nd rfl (Or.inl rfl)) (pgs_cons (pg_name (i := 5) sc_p_is_apart.nd rfl (Or.inl rfl)) (pgs_cons (pg_name (i := 6) sc_p_is_apart.nd rfl (Or.inl rfl)) pgs_nil))))) (fun _ _ _ _ _ => pts_nil) (fun _ _ _ _ _ => (pe_and (pe_cmpR (show OpR _ (compareOp .In) (rIn K false) from op_in_seq) (pv 5) (pv 2) (by rfl)) (pe_one (pe_cmpR (show OpR _ (compareOp .In) (rIn K false) from op_in_seq) (pv 6) (pv 3) (by rfl)))))) pa_nil)))))))), ?_⟩
    obtain ⟨s0, s1, s2, rfl⟩ := len3 hl
    have ok0 := okts s0 (by simp)
    have ok1 := okts s1 (by simp)
    refine ⟨_, rfl, 2, rfl, a, us, rfl, ha, fun R nR => ?_⟩
    have sR := same_new (o := .lst (cutV us none (some 2))) nR
    have ec : cutV us none (some 2) = us.take 2 := cut_to _ (by decide)
    rw [ec] at sR ⊢
    have e1 := upd_same (H := H) (a := R) (o := .lst (us.take 2))
    generalize upd H R (.lst (us.take 2)) = H0 at sR e1 ⊢
    refine ⟨R, us.take 2, [s0, s1], rfl, .inl (.inl e1), (al.to sR).take 2, by show 2 ≤ 60; decide, fun H1 t1' => ⟨_, rfl, ite2 (fun z => ?_) (fun z => ?_)⟩⟩
    · have q1 := q H1 (sR.trans t1')
      have z3 : (![s0, s1].all isLot) = true := z
      rw [Bool.not_eq_true'] at z3
      rw [apart_no (.inl z3)] at q1
      exact q1
    have t1 := sR.trans t1'
    obtain ⟨xs, zs, rfl, rfl⟩ := two_lot (s := s0) (t := s1) (by cases h : [s0, s1].all isLot with
      | true => rfl
      | false => exact absurd (show (![s0, s1].all isLot) = true by rw [h]; rfl) z)
    obtain ⟨v2, g2, r2⟩ := (al.to t1).at' (i := 2) (d := stOf s2) rfl
    refine ⟨_, rfl, a, us, 2, v2, rfl, rfl, t1.seq ha, atI_of (by decide) g2, _, rfl, by show 2 ≤ sizeLine; decide, fun L nL => ?_⟩
    have sL := same_new (o := .lst [v2, v]) nL
    refine ⟨L, [v2, v], [s2, st], rfl, .inl (.inl upd_same), .cons (r2.to sL) (.cons ((rv.to t1).to sL) .nil), by show 2 ≤ 60; decide, fun H2 t2 => ⟨_, rfl, ite2 (fun z2 => ?_) (fun z2 => ?_)⟩⟩
    · have q1 := q H2 (t1.trans (sL.trans t2))
      rw [apart_no (.inr (by have z3 : (![s2, st].all isBef) = true := z2; rw [Bool.not_eq_true'] at z3; exact z3))] at q1
      exact q1
    obtain ⟨u, w', x, y, rfl, rfl⟩ := two_bef (s := s2) (t := st) (by cases h : [s2, st].all isBef with
      | true => rfl
      | false => exact absurd (show (![s2, st].all isBef) = true by rw [h]; rfl) z2)
    have t02 := t1.trans (sL.trans t2)
    obtain ⟨v0, g0, r0⟩ := al.at' (i := 0) (d := stOf (.lot xs)) rfl
    obtain ⟨v1, g1, r1⟩ := al.at' (i := 1) (d := stOf (.lot zs)) rfl
    obtain ⟨b0, c0, rfl, hb0, hc0⟩ := r0.stL
    obtain ⟨b1, c1, rfl, hb1, hc1⟩ := r1.stL
    obtain ⟨b2, rfl, tu⟩ := r2.stBT
    obtain ⟨bs, rfl, tv⟩ := rv.stBT
    have tu2 := (tu.to sL).to t2
    refine ⟨_, rfl, a, us, 0, _, rfl, rfl, t02.seq ha, atI_of (by decide) g0, b0, _, 1, .ref c0, rfl, rfl, same_t t02 hb0, rfl, ?_⟩
    refine ⟨_, rfl, a, us, 1, _, rfl, rfl, t02.seq ha, atI_of (by decide) g1, b1, _, 1, .ref c1, rfl, rfl, same_t t02 hb1, rfl, ?_⟩
    refine ⟨by show 2 ≤ sizeLine; decide, fun T nT => ⟨T, _, rfl, .inl (.inl upd_same), rfl, _, _, rfl, _, _, rfl, rfl, ?_⟩⟩
    have sT := same_new (o := .tup [.ref c0, .ref c1]) nT
    generalize upd H2 T (.tup [.ref c0, .ref c1]) = H3 at sT ⊢
    have t03 := t02.trans sT
    refine ⟨_, rfl, _, rfl, c0, c1, xs, zs, rfl, same_t t03 hc0, .inr (same_t t03 hc1), ok0.2.2.2, fun c H4 hc t4 => ⟨_, rfl, ite2 (fun hm => ?_) (fun hm => ?_)⟩⟩
    · have t04 := t03.trans t4
      refine ⟨_, rfl, a, us, 2, _, rfl, rfl, t04.seq ha, atI_of (by decide) g2, _, rfl, by show 2 ≤ sizeLine; decide, fun T2 nT2 => ?_⟩
      have sT2 := same_new (o := .tup [.ref b2, .ref bs]) nT2
      have eT2 := upd_same (H := H4) (a := T2) (o := .tup [.ref b2, .ref bs])
      generalize upd H4 T2 (.tup [.ref b2, .ref bs]) = H5 at sT2 eT2 ⊢
      have t05 := t04.trans sT2
      have t25 := sT.trans (t4.trans sT2)
      have itm : ∀ (i : Nat) (nv : V), [V.ref b2, .ref bs][i]? = some nv → ∃ b m n, nv = .ref b ∧ SqT K H5 b [.str "before", .str m, .str n] ∧ [(u, w'), (x, y)][i]? = some (m, n) := fun i nv hi => by
        match i, hi with
        | 0, hi => cases hi; exact ⟨b2, u, w', rfl, same_t t25 tu2.1, rfl⟩
        | 1, hi => cases hi; exact ⟨bs, x, y, rfl, same_t t05 tv.1, rfl⟩
      refine ⟨T2, rfl, ⟨_, .inl (.inl eT2)⟩, fun L2 nL2 => ?_⟩
      refine lc_tup (K := K) (a := T2) (xs := [V.ref b2, .ref bs]) (fun i H' => Same H5 H' ∧ H' L2 = some (.lst ((([(u, w'), (x, y)].take i).map fun p => decide (p.1 ∈ xs) && decide (p.2 ∈ zs)).map V.bl))) ⟨same_new nL2, upd_same⟩ (fun i H' _ z => .inl (.inl (z.1 _ _ eT2))) ?_ ?_
      · rintro i nv H' hi ⟨s6, e7⟩
        obtain ⟨b, m, n, rfl, hb, hmn⟩ := itm i nv hi
        have s06 := t05.trans s6
        have li := lt_of_get hmn
        have fin : ∀ c : Bool, c = (decide (m ∈ xs) && decide (n ∈ zs)) → ∃ acc, H' L2 = some (.lst acc) ∧ acc.length < sizeLine ∧ Same H5 (upd H' L2 (.lst (acc ++ [V.bl c]))) ∧ (upd H' L2 (.lst (acc ++ [V.bl c]))) L2 = some (.lst ((([(u, w'), (x, y)].take (i + 1)).map fun p => decide (p.1 ∈ xs) && decide (p.2 ∈ zs)).map V.bl)) := fun c hc => by
          refine ⟨_, e7, slineL (by rw [List.length_map, List.length_map, List.length_take]; exact Nat.lt_of_le_of_lt (Nat.min_le_right _ _) (by show 2 < 100000; decide)), same_mut s6 nL2, ?_⟩
          rw [upd_same, take_succ_map hmn, List.map_append, hc]
          rfl
        refine ⟨b, _, rfl, same_t s6 hb, rfl, _, _, rfl, _, _, rfl, _, _, rfl, rfl, rfl, ?_⟩
        refine ⟨_, rfl, _, rfl, c0, _, rfl, .inr (same_t s06 hc0), rfl, flatS _, ?_⟩
        rw [if_neg Bool.false_ne_true, inS]
        refine ⟨_, rfl, ite2 (fun k => ?_) (fun k => ?_)⟩
        · refine ⟨_, rfl, _, rfl, c1, _, rfl, .inr (same_t s06 hc1), rfl, flatS _, ?_⟩
          rw [if_neg Bool.false_ne_true, inS]
          exact fin _ (by rw [k, Bool.true_and])
        · exact fin _ (by rw [Bool.eq_false_iff.mpr k, Bool.false_and])
      rintro H6 ⟨s6, e7⟩
      refine ⟨L2, _, rfl, .inl (.inl e7), ?_⟩
      have q6 := q H6 (t05.trans s6)
      rw [show apartR (.bef x y) [.lot xs, .lot zs, .bef u w'] = ((xs.all fun x => !decide (x ∈ zs)) && ([(u, w'), (x, y)].all fun p => decide (p.1 ∈ xs) && decide (p.2 ∈ zs))) from rfl] at q6
      have hc' : (xs.all fun x => !decide (x ∈ zs)) = true := List.all_eq_true.mpr fun x hx => by simpa using hc.mp hm x hx
      rw [hc', Bool.true_and] at q6
      rw [List.all_map]
      exact q6
    · have q6 := q H4 (t03.trans t4)
      have hc' : (xs.all fun x => !decide (x ∈ zs)) = false := Bool.eq_false_iff.mpr fun z => hm (hc.mpr fun x hx => by simpa using List.all_eq_true.mp z x hx)
      rw [show apartR (.bef x y) [.lot xs, .lot zs, .bef u w'] = ((xs.all fun x => !decide (x ∈ zs)) && ([(u, w'), (x, y)].all fun p => decide (p.1 ∈ xs) && decide (p.2 ∈ zs))) from rfl, hc', Bool.false_and] at q6
      exact q6
end
end Th
namespace Th
open PySem PySem.Spec PyProof.Rows L2
abbrev s_p_is_right : Stmt := topS 53
theorem sc_p_is_right : FnScope ["book", "facts", "entries", "entry", "statement", "rule", "elders", "is_given", "follows_from", "elder"] ["book", "facts", "entries", "entry"] (defScope s_p_is_right) := ⟨rfl, rfl, rfl, by decide +kernel, rfl, by decide +kernel, by decide +kernel⟩
/-- the statements that numbers name -/
def pickS (sts : List St) (el : List PyData) : List St := el.filterMap fun d => match d with
  | .int k => sts[k.toNat]?
  | _ => none
def rightR (ys : List Str) (ms fs : List (Str × List Str)) (sts : List St) (st : St) (r : Str) (el : List PyData) : Bool :=
  if r = "word" then (match el with | [.str m] => wordR ms m st | _ => false) else if r = "fact" then (match el with | [.str m] => factR ys fs m st | _ => false)
  else if r = "apart" then apartR st (pickS sts el) else if r = "across" then acrossR st (pickS sts el) else false
/-- a case: a book, facts -/
structure CaseAt (K : PySem.W.Frag) (H : Hp) (C b fa : Addr) (ys : List Str) (ms fs : List (Str × List Str)) : Prop where
  bk : BookW K H C b ys (ms.map wOf)
  fx : ∃ us, (SqL K H fa us ∨ SqT K H fa us) ∧ DaAll K H us (fs.map wOf)
  lm : ms.length ≤ 60
  lf : fs.length ≤ 60
  om : ∀ p ∈ ms, okW p
  of : ∀ p ∈ fs, okF p
theorem CaseAt.to {K : PySem.W.Frag} {H H' : Hp} {C b fa : Addr} {ys : List Str} {ms fs : List (Str × List Str)} (h : CaseAt K H C b fa ys ms fs) (s : Same H H') : CaseAt K H' C b fa ys ms fs := by
  obtain ⟨us, h1, h2⟩ := h.fx
  exact ⟨h.bk.to s, ⟨us, h1.imp s.seq (same_t s), h2.to s⟩, h.lm, h.lf, h.om, h.of⟩
/-- the elders of the four rules -/
def eldOk (n : Nat) (r : Str) (el : List PyData) : Prop := ((r = "word" ∨ r = "fact") ∧ ∃ m, el = [.str m]) ∨ ((r = "apart" ∨ r = "across") ∧ ∃ i j k : Nat, el = [.int (i : Int), .int (j : Int), .int (k : Int)] ∧ i < n ∧ j < n ∧ k < n)
def spRight (K : PySem.W.Frag) (C : Addr) : Sp := fun vs H Q _ => ∃ (b fa ea a ela : Addr) (ys : List Str) (ms fs : List (Str × List Str)) (eus : List V) (sts : List St) (v : V) (st : St) (r : Str) (el : List PyData),
  vs = [.ref b, .ref fa, .ref ea, .ref a] ∧ CaseAt K H C b fa ys ms fs ∧ SqL K H ea eus ∧ (∀ (i : Nat) (s : St), sts[i]? = some s → okSt s ∧ ∃ (q : Addr) (ws : List V) (u : V), eus[i]? = some (.ref q) ∧ SqT K H q ws ∧ ws[0]? = some u ∧ Da K H u (stOf s)) ∧
  SqT K H a [v, .str r, .ref ela] ∧ Da K H v (stOf st) ∧ okSt st ∧ Da K H (.ref ela) (.tuple el) ∧ eldOk sts.length r el ∧ ∀ H', Same H H' → Q (.bl (rightR ys ms fs sts st r el)) H'
section
variable {P : Program} {w : World} {K : PySem.W.Frag} {mg : Str → Option Value} {base : Heap} {CB : Addr}
theorem has_p_is_right (Z : Zs mg) (gGV : ∃ (d : Addr) (es : Array DictEntry) (n : Nat) (kvs : List (Str × Value)), mg "_GIVEN" = some (.ref d) ∧ KDict K w d es n ∧ (∀ z, PySem.W.nsIn K d z = some (lookE kvs z)) ∧ (∀ f, mg "_is_word" = some (.ref f) → lookE kvs "word" = some (.ref f)) ∧ (∀ f, mg "_is_of_fact" = some (.ref f) → lookE kvs "fact" = some (.ref f)) ∧ lookE kvs "apart" = none ∧ lookE kvs "across" = none) (gDR : ∃ (d : Addr) (es : Array DictEntry) (n : Nat) (kvs : List (Str × Value)), mg "_DRAWN" = some (.ref d) ∧ KDict K w d es n ∧ (∀ z, PySem.W.nsIn K d z = some (lookE kvs z)) ∧ (∀ f, mg "_is_apart" = some (.ref f) → lookE kvs "apart" = some (.ref f)) ∧ (∀ f, mg "_is_across" = some (.ref f) → lookE kvs "across" = some (.ref f))) (B : ClsF K mg CB "Book" ["_finds", "_words"]) (A : At K mg "_is_right" s_p_is_right ["book", "facts", "entries", "entry"]) (h_p_is_word : Has P w K mg base "_is_word" s_p_is_word 10 ["book", "facts", "statement", "elders"] (spWordR K CB)) (h_p_is_of_fact : Has P w K mg base "_is_of_fact" s_p_is_of_fact 3 ["book", "facts", "statement", "elders"] (spOfFact K CB)) (h_p_is_apart : Has P w K mg base "_is_apart" s_p_is_apart 3 ["statement", "told"] (spDrawn K 3 apartR)) (h_p_is_across : Has P w K mg base "_is_across" s_p_is_across 4 ["statement", "told"] (spDrawn K 3 acrossR)) : Has P w K mg base "_is_right" s_p_is_right 11 ["book", "facts", "entries", "entry"] (spRight K CB) := by
  obtain ⟨f, fd, F, mg1, bd⟩ := A
  obtain ⟨f_p_is_word, fd_p_is_word, G_p_is_word, m_p_is_word, k_p_is_word, b_p_is_word, F_p_is_word⟩ := h_p_is_word
  obtain ⟨f_p_is_of_fact, fd_p_is_of_fact, G_p_is_of_fact, m_p_is_of_fact, k_p_is_of_fact, b_p_is_of_fact, F_p_is_of_fact⟩ := h_p_is_of_fact
  obtain ⟨f_p_is_apart, fd_p_is_apart, G_p_is_apart, m_p_is_apart, k_p_is_apart, b_p_is_apart, F_p_is_apart⟩ := h_p_is_apart
  obtain ⟨f_p_is_across, fd_p_is_across, G_p_is_across, m_p_is_across, k_p_is_across, b_p_is_across, F_p_is_across⟩ := h_p_is_across
  obtain ⟨cG, eG, nG, kG, g_GIVEN, KG, hG, gWord, gFact, gNoA, gNoX⟩ := gGV
  obtain ⟨cD, eD, nD, kD, g_DRAWN, KDr, hD, dApart, dAcross⟩ := gDR
  have A1 := held_SL (l := [(f_p_is_word, spWordR K CB), (f_p_is_of_fact, spOfFact K CB)]) (k := 10) fun p hp => by
    rcases List.mem_cons.mp hp with e | hp
    · rw [e]; exact held_of G_p_is_word k_p_is_word b_p_is_word (by decide)
    · rw [List.mem_singleton.mp hp]; exact held_of G_p_is_of_fact k_p_is_of_fact b_p_is_of_fact (by decide)
  have A2 := held_SL (l := [(f_p_is_apart, spDrawn K 3 apartR), (f_p_is_across, spDrawn K 3 acrossR)]) (k := 10) fun p hp => by
    rcases List.mem_cons.mp hp with e | hp
    · rw [e]; exact held_of G_p_is_apart k_p_is_apart b_p_is_apart (by decide)
    · rw [List.mem_singleton.mp hp]; exact held_of G_p_is_across k_p_is_across b_p_is_across (by decide)
  have n1 := fun_ne F_p_is_word F_p_is_of_fact (by decide +kernel)
  have n2 := fun_ne F_p_is_apart F_p_is_across (by decide +kernel)
  refine ⟨f, fd, ?_, mg1, F.kp, bd, F⟩
  refine F.ok sc_p_is_right (fun vs H Q E h => ?_) (fun cdv A outer s H vs Q E hr h => ?_)
  · obtain ⟨b, fa, ea, a, ela, ys, ms, fs, eus, sts, v, st, r, el, rfl, _⟩ := h
    rfl
  · obtain ⟨b, fa, ea, a, ela, ys, ms, fs, eus, sts, v, st, r, el, rfl, cs, hea, hen, ha, rv, okst, rel, ok, q⟩ := h
    refine ⟨_, (pss_cons (ps_asg (pv 3) (pg_tup (by rfl) (pgs_cons (pg_name (i := 4) sc_p_is_right.nd rfl (Or.inl rfl)) (pgs_cons (pg_name (i := 5) sc_p_is_right.nd rfl (Or.inl rfl)) (pgs_cons (pg_name (i := 6) sc_p_is_right.nd rfl (Or.inl rfl)) pgs_nil))))) (pss_cons (ps_if (pt_cmpR (show OpR _ (compareOp .In) (rInKd K cG) from op_in_kd KG) (pv 5) (pe_glob (v := .ref cG) (by rfl) g_GIVEN rfl) (by rfl)) (pss_cons (ps_set (i := 7) sc_p_is_right.nd rfl (Or.inl rfl) (pe_ix (show IxR _ (rKd K cG) from ix_kd KG) (pe_glob (v := .ref cG) (by rfl) g_GIVEN rfl) (pv 5) (fun _ _ => rfl))) (pss_one (ps_ret (pe_callA (i := 7) A1 (hr.mono (by decide)) rfl (Or.inl rfl) (pa_cons (pv 0) (pa_cons (pv 1) (pa_cons (pv 4) (pa_cons (pv 6) pa_nil)))))))) pss_nil) (pss_cons (ps_set (i := 8) sc_p_is_right.nd rfl (Or.inl rfl) (pe_ix (show IxR _ (rKd K cD) from ix_kd KDr) (pe_glob (v := .ref cD) (by rfl) g_DRAWN rfl) (pv 5) (fun _ _ => rfl))) (pss_one (ps_ret (pe_callA (i := 8) A2 (hr.mono (by decide)) rfl (Or.inl rfl) (pa_cons (pv 4) (pa_cons (pe_lc (own := [("elder", 9)]) (g := gName 9) (by rfl) sc_p_is_right.nd (pi_tup (pv 6)) (blkOk_by (own := [("elder", 9)]) (N := ["book", "facts", "entries", "entry", "statement", "rule", "elders", "is_given", "follows_from", "elder"]) (sc := defScope s_p_is_right) (by decide +kernel)) (fun _ _ _ _ _ => pg_name (i := 9) sc_p_is_right.nd rfl (Or.inl rfl)) (fun _ _ _ _ _ => pts_nil) (fun _ _ _ _ _ => (pe_ix (show IxR _ (rIxT K) from ix_tup) (pe_ix (show IxR _ (rIxL K) from ix_list) (pv 2) (pv 9) (fun _ _ => rfl)) pe_int (fun _ _ => rfl)))) pa_nil)))))))), ?_⟩
    refine ⟨_, rfl, a, _, rfl, ha, rfl, _, _, rfl, _, _, rfl, _, _, rfl, rfl, ?_⟩
    refine ⟨_, rfl, r, _, rfl, rfl, hG r, _, rfl, ?_⟩
    rcases ok with ⟨hr1, m, rfl⟩ | ⟨hr2, i, j, k, rfl, li, lj, lk⟩
    · have hel : SqT K H ela [.str m] := by
        cases rel with
        | tup s1 _ r1 =>
          cases r1 with
          | cons h1 r1 =>
            cases h1
            cases r1
            exact s1
      rcases hr1 with rfl | rfl
      · rw [gWord _ m_p_is_word]
        refine iteT ?_
        refine ⟨_, rfl, _, _, .ref f_p_is_word, rfl, rfl, (hG _).trans (by rw [gWord _ m_p_is_word]), rfl, ?_⟩
        refine ⟨f_p_is_word, _, rfl, SL_hd, _, rfl, _, rfl, _, rfl, _, rfl, b, ela, .ref fa, v, m, ys, ms, st, rfl, cs.bk, by have := cs.lm; omega, cs.om, rv, okst, hel, fun H1 s1 => ?_⟩
        have q1 := q H1 s1
        unfold rightR at q1
        rw [if_pos rfl] at q1
        exact q1
      · obtain ⟨us, hfa, dfs⟩ := cs.fx
        rw [gFact _ m_p_is_of_fact]
        refine iteT ?_
        refine ⟨_, rfl, _, _, .ref f_p_is_of_fact, rfl, rfl, (hG _).trans (by rw [gFact _ m_p_is_of_fact]), rfl, ?_⟩
        refine ⟨f_p_is_of_fact, _, rfl, SL_tl n1 SL_hd, _, rfl, _, rfl, _, rfl, _, rfl, b, ela, fa, v, m, ys, ms.map wOf, us, fs, st, rfl, cs.bk, hfa, dfs, cs.lf, cs.of, rv, okst, hel, fun H1 s1 => ?_⟩
        have q1 := q H1 s1
        unfold rightR at q1
        rw [if_neg (show ¬ Str.ofString "fact" = Str.ofString "word" by decide +kernel), if_pos rfl] at q1
        exact q1
    · have hel : SqT K H ela [.int (i : Int), .int (j : Int), .int (k : Int)] := by
        cases rel with
        | tup s1 _ r1 =>
          cases r1 with
          | cons h1 r1 =>
            cases h1
            cases r1 with
            | cons h2 r1 =>
              cases h2
              cases r1 with
              | cons h3 r1 =>
                cases h3
                cases r1
                exact s1
      obtain ⟨si, gi⟩ : ∃ s, sts[i]? = some s := ⟨_, List.getElem?_eq_getElem li⟩
      obtain ⟨sj, gj⟩ : ∃ s, sts[j]? = some s := ⟨_, List.getElem?_eq_getElem lj⟩
      obtain ⟨sk, gk⟩ : ∃ s, sts[k]? = some s := ⟨_, List.getElem?_eq_getElem lk⟩
      obtain ⟨oi, qi, wi, ui, i1, i2, i3, di⟩ := hen i si gi
      obtain ⟨oj, qj, wj, uj, j1, j2, j3, dj⟩ := hen j sj gj
      obtain ⟨ok', qk, wk, uk, k1, k2, k3, dk⟩ := hen k sk gk
      have oks : ∀ t ∈ [si, sj, sk], okSt t := fun t ht => by
        simp only [List.mem_cons, List.not_mem_nil, or_false] at ht
        rcases ht with e | e | e
        · rw [e]; exact oi
        · rw [e]; exact oj
        · rw [e]; exact ok'
      have pk : pickS sts [.int (i : Int), .int (j : Int), .int (k : Int)] = [si, sj, sk] := by
        unfold pickS
        simp [gi, gj, gk]
      have itm : ∀ (n : Nat) (x : V), [V.int (i : Int), .int (j : Int), .int (k : Int)][n]? = some x → ∃ (ix : Nat) (q' : Addr) (ws : List V) (u : V), x = .int (ix : Int) ∧ eus[ix]? = some (.ref q') ∧ SqT K H q' ws ∧ ws[0]? = some u ∧ [ui, uj, uk][n]? = some u := fun n x hx => by
        match n, hx with
        | 0, hx => cases hx; exact ⟨i, qi, wi, ui, rfl, i1, i2, i3, rfl⟩
        | 1, hx => cases hx; exact ⟨j, qj, wj, uj, rfl, j1, j2, j3, rfl⟩
        | 2, hx => cases hx; exact ⟨k, qk, wk, uk, rfl, k1, k2, k3, rfl⟩
      rcases hr2 with rfl | rfl
      · rw [gNoA]
        refine iteF ?_
        refine ⟨_, rfl, _, _, .ref f_p_is_apart, rfl, rfl, (hD _).trans (by rw [dApart _ m_p_is_apart]), rfl, ?_⟩
        refine ⟨f_p_is_apart, _, rfl, SL_hd, _, rfl, _, rfl, ela, rfl, ⟨_, hel⟩, fun L nL => ?_⟩
        refine lc_tup (K := K) (a := ela) (xs := [V.int (i : Int), .int (j : Int), .int (k : Int)]) (fun n H' => Same H H' ∧ H' L = some (.lst ([ui, uj, uk].take n))) ⟨same_new nL, upd_same⟩ (fun n H' _ z => same_t z.1 hel) ?_ ?_
        · rintro n x H' hn ⟨s1, e5⟩
          obtain ⟨ix, q', ws, u, rfl, g1, g2, g3, g4⟩ := itm n x hn
          refine ⟨rfl, _, rfl, _, rfl, ea, eus, (ix : Int), .ref q', rfl, rfl, s1.seq hea, atI_of (Int.natCast_nonneg ix) (by rw [Int.toNat_natCast]; exact g1), q', ws, 0, u, rfl, rfl, same_t s1 g2, atI_of (by decide) g3, _, e5, slineL (by rw [List.length_take]; exact Nat.lt_of_le_of_lt (Nat.min_le_right _ _) (by show 3 < 100000; decide)), same_mut s1 nL, ?_⟩
          rw [upd_same, List.take_add_one, g4]
          rfl
        rintro H' ⟨s1, e5⟩
        refine ⟨v, L, [ui, uj, uk], st, [si, sj, sk], rfl, rv.to s1, okst, .inl (.inl e5), .cons (di.to s1) (.cons (dj.to s1) (.cons (dk.to s1) .nil)), oks, rfl, fun H5 s5 => ?_⟩
        have q1 := q H5 (s1.trans s5)
        unfold rightR at q1
        rw [if_neg (show ¬ Str.ofString "apart" = Str.ofString "word" by decide +kernel), if_neg (show ¬ Str.ofString "apart" = Str.ofString "fact" by decide +kernel), if_pos rfl, pk] at q1
        exact q1
      · rw [gNoX]
        refine iteF ?_
        refine ⟨_, rfl, _, _, .ref f_p_is_across, rfl, rfl, (hD _).trans (by rw [dAcross _ m_p_is_across]), rfl, ?_⟩
        refine ⟨f_p_is_across, _, rfl, SL_tl n2 SL_hd, _, rfl, _, rfl, ela, rfl, ⟨_, hel⟩, fun L nL => ?_⟩
        refine lc_tup (K := K) (a := ela) (xs := [V.int (i : Int), .int (j : Int), .int (k : Int)]) (fun n H' => Same H H' ∧ H' L = some (.lst ([ui, uj, uk].take n))) ⟨same_new nL, upd_same⟩ (fun n H' _ z => same_t z.1 hel) ?_ ?_
        · rintro n x H' hn ⟨s1, e5⟩
          obtain ⟨ix, q', ws, u, rfl, g1, g2, g3, g4⟩ := itm n x hn
          refine ⟨rfl, _, rfl, _, rfl, ea, eus, (ix : Int), .ref q', rfl, rfl, s1.seq hea, atI_of (Int.natCast_nonneg ix) (by rw [Int.toNat_natCast]; exact g1), q', ws, 0, u, rfl, rfl, same_t s1 g2, atI_of (by decide) g3, _, e5, slineL (by rw [List.length_take]; exact Nat.lt_of_le_of_lt (Nat.min_le_right _ _) (by show 3 < 100000; decide)), same_mut s1 nL, ?_⟩
          rw [upd_same, List.take_add_one, g4]
          rfl
        rintro H' ⟨s1, e5⟩
        refine ⟨v, L, [ui, uj, uk], st, [si, sj, sk], rfl, rv.to s1, okst, .inl (.inl e5), .cons (di.to s1) (.cons (dj.to s1) (.cons (dk.to s1) .nil)), oks, rfl, fun H5 s5 => ?_⟩
        have q1 := q H5 (s1.trans s5)
        unfold rightR at q1
        rw [if_neg (show ¬ Str.ofString "across" = Str.ofString "word" by decide +kernel), if_neg (show ¬ Str.ofString "across" = Str.ofString "fact" by decide +kernel), if_neg (show ¬ Str.ofString "across" = Str.ofString "apart" by decide +kernel), if_pos rfl, pk] at q1
        exact q1
end
end Th
namespace Th
open PySem PySem.Spec PyProof.Rows L2
abbrev s_p_first_fault : Stmt := topS 49
theorem sc_p_first_fault : FnScope ["book", "facts", "entries", "at", "entry"] ["book", "facts", "entries"] (defScope s_p_first_fault) := ⟨rfl, rfl, rfl, by decide +kernel, rfl, by decide +kernel, by decide +kernel⟩
def enOf (e : St × Str × List PyData) : PyData := .tuple [stOf e.1, .str e.2.1, .tuple e.2.2]
/-- entries of the four rules, their form is well -/
def enOk (i : Nat) (e : St × Str × List PyData) : Prop := okSt e.1 ∧ eldOk i e.2.1 e.2.2 ∧ entryD i (enOf e) = true ∧ Lv 6 (enOf e)
/-- the first that is not right -/
def ffR (ys : List Str) (ms fs : List (Str × List Str)) (ens : List (St × Str × List PyData)) : Option Nat :=
  firstIx (fun i => !(match ens[i]? with | some e => rightR ys ms fs (ens.map (·.1)) e.1 e.2.1 e.2.2 | none => true)) ens.length
def ffV : Option Nat → V
  | some i => .int (i : Int)
  | none => .non
/-- facts that are well -/
structure FactsAt (K : PySem.W.Frag) (H : Hp) (fa : Addr) (ys : List Str) (fs : List (Str × List Str)) : Prop where
  da : Da K H (.ref fa) (.list (fs.map wOf))
  lv : ∀ e ∈ fs.map wOf, Lv 6 e
  no : fDue ys (.list (fs.map wOf)) = none
  lf : fs.length ≤ 60
  of : ∀ p ∈ fs, okF p
theorem FactsAt.to {K : PySem.W.Frag} {H H' : Hp} {fa : Addr} {ys : List Str} {fs : List (Str × List Str)} (h : FactsAt K H fa ys fs) (s : Same H H') : FactsAt K H' fa ys fs := ⟨h.da.to s, h.lv, h.no, h.lf, h.of⟩
theorem eld_mono {i n : Nat} {r : Str} {el : List PyData} (h : eldOk i r el) (l : i ≤ n) : eldOk n r el := by
  rcases h with h | ⟨h1, a, b, c, h2, h3, h4, h5⟩
  · exact .inl h
  · exact .inr ⟨h1, a, b, c, h2, by omega, by omega, by omega⟩
theorem Da.eN {K : PySem.W.Frag} {H : Hp} {v : V} {e : St × Str × List PyData} (h : Da K H v (enOf e)) : ∃ (a b : Addr) (u : V), v = .ref a ∧ SqT K H a [u, .str e.2.1, .ref b] ∧ Da K H u (stOf e.1) ∧ Da K H (.ref b) (.tuple e.2.2) := by
  cases h with
  | tup s1 _ r1 =>
    cases r1 with
    | cons h1 r1 =>
      cases r1 with
      | cons h2 r1 =>
        cases h2
        cases r1 with
        | cons h3 r1 =>
          cases r1
          cases h3 with
          | tup s3 t3 r3 => exact ⟨_, _, _, rfl, s1, h1, .tup s3 t3 r3⟩
def spFF (K : PySem.W.Frag) (C : Addr) : Sp := fun vs H Q _ => ∃ (b fa ea : Addr) (ys : List Str) (ms fs : List (Str × List Str)) (eus : List V) (ens : List (St × Str × List PyData)), vs = [.ref b, .ref fa, .ref ea] ∧ BookW K H C b ys (ms.map wOf) ∧ ms.length ≤ 60 ∧ (∀ p ∈ ms, okW p) ∧ FactsAt K H fa ys fs ∧
  SqL K H ea eus ∧ TyX K H (.ref ea) (.type "list") ∧ DaAll K H eus (ens.map enOf) ∧ (∀ (i : Nat) e, ens[i]? = some e → enOk i e) ∧ ens.length ≤ 60 ∧ ∀ H', Same H H' → Q (ffV (ffR ys ms fs ens)) H'
section
variable {P : Program} {w : World} {K : PySem.W.Frag} {mg : Str → Option Value} {base : Heap} {CB : Addr}
theorem has_p_first_fault (Z : Zs mg) (B : ClsF K mg CB "Book" ["_finds", "_words"]) (A : At K mg "first_fault" s_p_first_fault ["book", "facts", "entries"]) (h_p_check_facts : HasX P w K mg base "check_facts" s_p_check_facts 10 ["finds", "facts"] (spCheckF K mg)) (h_p_is_listed : Has P w K mg base "is_listed" s_p_is_listed 1 ["value"] (spSeqQ K)) (h_p_is_entry : Has P w K mg base "_is_entry" s_p_is_entry 5 ["value", "at"] (spEntry K)) (h_p_is_right : Has P w K mg base "_is_right" s_p_is_right 11 ["book", "facts", "entries", "entry"] (spRight K CB)) (h_c_Book_finds : HasM P w K mg base CB "finds" 1 ["self"] (spBFindsW K CB)) : HasX P w K mg base "first_fault" s_p_first_fault 12 ["book", "facts", "entries"] (spFF K CB) := by
  obtain ⟨f, fd, F, mg1, bd⟩ := A
  obtain ⟨f_p_check_facts, fd_p_check_facts, G_p_check_facts, m_p_check_facts, k_p_check_facts, b_p_check_facts, F_p_check_facts⟩ := h_p_check_facts
  obtain ⟨f_p_is_listed, fd_p_is_listed, G_p_is_listed, m_p_is_listed, k_p_is_listed, b_p_is_listed, F_p_is_listed⟩ := h_p_is_listed
  obtain ⟨f_p_is_entry, fd_p_is_entry, G_p_is_entry, m_p_is_entry, k_p_is_entry, b_p_is_entry, F_p_is_entry⟩ := h_p_is_entry
  obtain ⟨f_p_is_right, fd_p_is_right, G_p_is_right, m_p_is_right, k_p_is_right, b_p_is_right, F_p_is_right⟩ := h_p_is_right
  obtain ⟨f_c_Book_finds, fd_c_Book_finds, ME_c_Book_finds, G_c_Book_finds, b_c_Book_finds⟩ := h_c_Book_finds
  refine ⟨f, fd, ?_, mg1, F.kp, bd, F⟩
  refine F.okX sc_p_first_fault (fun vs H Q E h => ?_) (fun cdv A outer s H vs Q E hr h => ?_)
  · obtain ⟨b, fa, ea, ys, ms, fs, eus, ens, rfl, _⟩ := h
    rfl
  · obtain ⟨b, fa, ea, ys, ms, fs, eus, ens, rfl, bk, hlm, okm, hf, hea, tea, al, oke, hle, q⟩ := h
    refine ⟨_, (pss_cons (ps_expr (pe_call G_p_check_facts (hr.mono (by decide)) (by rfl) m_p_check_facts k_p_check_facts b_p_check_facts .nil (passes_call (takes_of rfl rfl rfl rfl) fun _ _ _ _ h => h) (pa_cons (pe_meth0 (pv 0) B.cl ME_c_Book_finds G_c_Book_finds (hr.mono (by decide)) b_c_Book_finds .nil (passes_call (takes_of rfl rfl rfl rfl) fun _ _ _ _ h => h)) (pa_cons (pv 1) pa_nil)))) (pss_cons (ps_if (pt_not (pt_val (pe_call G_p_is_listed (hr.mono (by decide)) (by rfl) m_p_is_listed k_p_is_listed b_p_is_listed .nil pass0 (pa_cons (pv 2) pa_nil)))) (pss_one (ps_ret (pe_un un_neg pe_int))) pss_nil) (pss_cons (ps_for (passes_of rfl) rfl (pi_enumLT (by rfl) Z.enumerate_ (pa_cons (pv 2) pa_nil)) (pg_tup (by rfl) (pgs_cons (pg_name (i := 3) sc_p_first_fault.nd rfl (Or.inl rfl)) (pgs_cons (pg_name (i := 4) sc_p_first_fault.nd rfl (Or.inl rfl)) pgs_nil))) (pss_one (ps_if (PW.pt (pw_or (pt_not (pt_val (pe_call G_p_is_entry (hr.mono (by decide)) (by rfl) m_p_is_entry k_p_is_entry b_p_is_entry .nil pass0 (pa_cons (pv 4) (pa_cons (pv 3) pa_nil))))) (pw_or1 (pt_not (pt_val (pe_call G_p_is_right (hr.mono (by decide)) (by rfl) m_p_is_right k_p_is_right b_p_is_right .nil pass0 (pa_cons (pv 0) (pa_cons (pv 1) (pa_cons (pv 2) (pa_cons (pv 4) pa_nil)))))))))) (pss_one (ps_ret (pv 3))) pss_nil))) (pss_one (ps_ret pe_non))))), ?_⟩
    obtain ⟨dx, f1, w1, us1, e1, e2, e3, e4⟩ := bk.ex
    refine ⟨_, rfl, b, dx, _, rfl, e1, rfl, b, ys, ms.map wOf, rfl, bk, fun r nr => ?_⟩
    have s1 := same_new (o := .lst (ys.map V.str)) nr
    have er := upd_same (H := H) (a := r) (o := .lst (ys.map V.str))
    generalize upd H r (.lst (ys.map V.str)) = H1 at s1 er ⊢
    refine ⟨_, rfl, r, ys, .ref fa, .list (fs.map wOf), rfl, .inl (.inl er), hf.da.to s1, fun ds hd => by cases hd; exact hf.lv, fun _ H2 s2 => ?_, fun c val hd => by rw [hf.no] at hd; cases hd⟩
    have s12 := s1.trans s2
    refine ⟨_, rfl, .ref ea, .list (ens.map enOf), rfl, (Da.lst hea tea al).to s12, fun H3 s3 => ⟨_, rfl, iteF ?_⟩⟩
    have s13 := s12.trans s3
    have lal := al.len
    rw [List.length_map] at lal
    have hen : ∀ (H' : Hp), Same H H' → ∀ (i : Nat) (s : St), (ens.map (·.1))[i]? = some s → okSt s ∧ ∃ (q : Addr) (ws : List V) (u : V), eus[i]? = some (.ref q) ∧ SqT K H' q ws ∧ ws[0]? = some u ∧ Da K H' u (stOf s) := fun H' s' i s hs => by
      rw [List.getElem?_map] at hs
      obtain ⟨e, he, rfl⟩ := Option.map_eq_some_iff.mp hs
      obtain ⟨v, hv, rv⟩ := (al.to s').at' (i := i) (d := enOf e) (by rw [List.getElem?_map, he]; rfl)
      obtain ⟨a, b', u, rfl, h1, h2, _⟩ := rv.eN
      exact ⟨(oke i e he).1, a, _, u, hv, h1, rfl, h2⟩
    have step : ∀ i e, ens[i]? = some e → (∀ j e', j < i → ens[j]? = some e' → rightR ys ms fs (ens.map (·.1)) e'.1 e'.2.1 e'.2.2 = true) → rightR ys ms fs (ens.map (·.1)) e.1 e.2.1 e.2.2 = false → ffR ys ms fs ens = some i := fun i e he hj hr => by
      refine firstIx_some (lt_of_get he) (by rw [he]; show (!rightR ys ms fs (ens.map (·.1)) e.1 e.2.1 e.2.2) = true; rw [hr]; rfl) fun j hj' => ?_
      obtain ⟨e', he'⟩ : ∃ e', ens[j]? = some e' := ⟨_, List.getElem?_eq_getElem (Nat.lt_trans hj' (lt_of_get he))⟩
      rw [he']
      show (!rightR ys ms fs (ens.map (·.1)) e'.1 e'.2.1 e'.2.2) = false
      rw [hj j e' hj' he']
      rfl
    refine ⟨_, rfl, ea, eus, rfl, .inl ⟨s13.seq hea, for_it walk_enum (fun i σ H' => ∃ y1 y2 : Option V, σ = [some (.ref b), some (.ref fa), some (.ref ea), y1, y2] ∧ Same H H' ∧ ∀ j e, j < i → ens[j]? = some e → rightR ys ms fs (ens.map (·.1)) e.1 e.2.1 e.2.2 = true) ⟨_, _, rfl, s13, fun j e hj => absurd hj (Nat.not_lt_zero j)⟩ (fun i σ H' _ z => by obtain ⟨_, _, _, s, _⟩ := z; exact Same.seq s hea) ?_ ?_⟩⟩
    · rintro i x σ H4 H5 _ ⟨y1, y2, rfl, s4, hn⟩ ⟨T, x1, x2, rfl, nT, rfl, e5, e6⟩
      cases e5
      have sT := same_new (o := .tup [.int (i : Nat), x2]) nT
      obtain ⟨d, hd, rd⟩ := al.at e6
      rw [List.getElem?_map] at hd
      obtain ⟨e, he, rfl⟩ := Option.map_eq_some_iff.mp hd
      obtain ⟨o1, o2, o3, o4⟩ := oke i e he
      obtain ⟨a, b', u, rfl, h1, h2, h3⟩ := rd.eN
      have s5 := s4.trans sT
      refine ⟨T, _, rfl, .inl (.inl upd_same), rfl, _, _, rfl, _, _, rfl, rfl, ?_⟩
      generalize upd H4 T (.tup [.int (i : Nat), .ref a]) = H5 at s5 ⊢
      clear sT
      refine ⟨_, rfl, _, rfl, .ref a, i, enOf e, rfl, rd.to s5, o4, fun H6 s6 => ⟨_, rfl, ?_⟩⟩
      rw [o3]
      have s56 := s5.trans s6
      refine iteF ?_
      refine ⟨_, rfl, _, rfl, _, rfl, _, rfl, b, fa, ea, a, b', ys, ms, fs, eus, ens.map (·.1), u, e.1, e.2.1, e.2.2, rfl, ⟨bk.to s56, ?_, hlm, hf.lf, okm, hf.of⟩, s56.seq hea, hen H6 s56, same_t s56 h1, h2.to s56, o1, h3.to s56, ?_, fun H7 s7 => ⟨_, rfl, ite2 (fun hm => ?_) (fun hm => ?_)⟩⟩
      · cases hf.da.to s56 with
        | lst a1 _ a3 => exact ⟨_, .inl a1, a3⟩
      · rw [List.length_map]
        exact eld_mono o2 (Nat.le_of_lt (lt_of_get he))
      · have hr : rightR ys ms fs (ens.map (·.1)) e.1 e.2.1 e.2.2 = false := by simpa using hm
        have q1 := q H7 (s56.trans s7)
        rw [step i e he hn hr] at q1
        exact ⟨_, rfl, q1⟩
      · have hr : rightR ys ms fs (ens.map (·.1)) e.1 e.2.1 e.2.2 = true := by simpa using hm
        refine ⟨_, _, rfl, s56.trans s7, fun j e' hj he' => ?_⟩
        rcases Nat.lt_succ_iff_lt_or_eq.mp hj with z | z
        · exact hn j e' z he'
        · rw [z, he] at he'
          cases he'
          exact hr
    rintro σ H4 ⟨y1, y2, rfl, s4, hn⟩
    have q1 := q H4 s4
    rw [show ffR ys ms fs ens = none from firstIx_none fun j hj => by
      obtain ⟨e', he'⟩ : ∃ e', ens[j]? = some e' := ⟨_, List.getElem?_eq_getElem hj⟩
      rw [he']
      show (!rightR ys ms fs (ens.map (·.1)) e'.1 e'.2.1 e'.2.2) = false
      rw [hn j e' (by rw [lal]; exact hj) he']
      rfl] at q1
    exact q1
end
end Th
namespace Th
open PySem PySem.Spec PyProof.Rows L2
abbrev s_l_same : Stmt := topS 88
theorem sc_l_same : FnScope ["_law_got", "_law_due", "_law_k"] ["_law_got", "_law_due"] (defScope s_l_same) := ⟨rfl, rfl, rfl, by decide +kernel, rfl, by decide +kernel, by decide +kernel⟩

/-- two values of the same datum are told to be the same -/
def spSm (K : PySem.W.Frag) (n : Nat) : Sp := fun vs H Q _ => ∃ (v u : V) (d : PyData), vs = [v, u] ∧ Da K H v d ∧ Da K H u d ∧ LvN n d ∧ ∀ H', Same H H' → Q (.bl true) H'
section
variable {P : Program} {w : World} {K : PySem.W.Frag} {mg : Str → Option Value} {base : Heap}
theorem same_step (Z : Zs mg) {f : Addr} {fd : FuncData} (F : Fun K "_law_same" "_law_same" s_l_same f fd) (m_l_same : mg "_law_same" = some (.ref f)) (b_l_same : Binds K fd ["_law_got", "_law_due"] []) (k : Nat)
    (G_l_same : FnOk P w K mg base CX0 k f fd ["_law_got", "_law_due"] (spSm K k)) : FnOk P w K mg base CX0 (k + 1) f fd ["_law_got", "_law_due"] (spSm K (k + 1)) := by
  have k_l_same := F.kp
  refine F.ok sc_l_same (fun vs H Q E h => ?_) (fun cdv A outer s H vs Q E hr h => ?_)
  · obtain ⟨v, u, d, rfl, _⟩ := h
    rfl
  · obtain ⟨v, u, d, rfl, rv, ru, lv, q⟩ := h
    have lv : Lv k d := lv
    have nd := rv.nodict
    refine ⟨_, (pss_cons (ps_if (pt_val (pe_callB (show CallR _ (.builtin "isinstance") (rIsiT K) from call_isiT) (by rfl) Z.isinstance_ (by decide +kernel) (pa_cons (pv 1) (pa_cons (pe_tup (pa_cons (pe_bltn (v := .ty "list") (by rfl) Z.list_ (by decide +kernel) rfl) (pa_cons (pe_bltn (v := .ty "tuple") (by rfl) Z.tuple_ (by decide +kernel) rfl) pa_nil))) pa_nil)))) (pss_cons (ps_if (PW.pt (pw_or (pt_cmpR op_ne (pe_callB call_isi (by rfl) Z.isinstance_ (by decide +kernel) (pa_cons (pv 0) (pa_cons (pe_bltn (v := .ty "list") (by rfl) Z.list_ (by decide +kernel) rfl) pa_nil))) (pe_callB call_isi (by rfl) Z.isinstance_ (by decide +kernel) (pa_cons (pv 1) (pa_cons (pe_bltn (v := .ty "list") (by rfl) Z.list_ (by decide +kernel) rfl) pa_nil))) (nomark _)) (pw_or1 (pt_cmpR op_ne (pe_callB call_isi (by rfl) Z.isinstance_ (by decide +kernel) (pa_cons (pv 0) (pa_cons (pe_bltn (v := .ty "tuple") (by rfl) Z.tuple_ (by decide +kernel) rfl) pa_nil))) (pe_callB call_isi (by rfl) Z.isinstance_ (by decide +kernel) (pa_cons (pv 1) (pa_cons (pe_bltn (v := .ty "tuple") (by rfl) Z.tuple_ (by decide +kernel) rfl) pa_nil))) (nomark _))))) (pss_one (ps_ret pe_bl)) pss_nil) (pss_one (ps_ret (pe_and (pe_cmpR op_eq (pe_callB call_len_seq (by rfl) Z.len_ (by decide +kernel) (pa_cons (pv 0) pa_nil)) (pe_callB call_len_seq (by rfl) Z.len_ (by decide +kernel) (pa_cons (pv 1) pa_nil)) (nomark _)) (pe_one (pe_callB (cr_all rfl) (by rfl) Z.all_ (by decide +kernel) (pa_cons (pe_lc (own := [("_law_k", 2)]) (g := gName 2) (by rfl) sc_l_same.nd (pi_range1 (by rfl) Z.range_ (pa_cons (pe_callB call_len_seq (by rfl) Z.len_ (by decide +kernel) (pa_cons (pv 1) pa_nil)) pa_nil)) (blkOk_by (own := [("_law_k", 2)]) (N := ["_law_got", "_law_due", "_law_k"]) (sc := defScope s_l_same) (by decide +kernel)) (fun _ _ _ _ _ => pg_name (i := 2) sc_l_same.nd rfl (Or.inl rfl)) (fun _ _ _ _ _ => pts_nil) (fun _ _ _ _ _ => (pe_call G_l_same (hr.mono (Nat.le_refl _)) (by rfl) m_l_same k_l_same b_l_same .nil pass0 (pa_cons (pe_ix (show IxR _ (rIx K) from ix_seq) (pv 0) (pv 2) (fun _ _ => rfl)) (pa_cons (pe_ix (show IxR _ (rIx K) from ix_seq) (pv 1) (pv 2) (fun _ _ => rfl)) pa_nil))))) pa_nil))))))) pss_nil) (pss_cons (ps_if (PW.pt (pw_or (pt_cmpR op_isN (pv 1) pe_non (nomark _)) (pw_or1 (pt_cmpR op_isN (pv 0) pe_non (nomark _))))) (pss_one (ps_ret (pe_and (pe_cmpR op_isN (pv 1) pe_non (nomark _)) (pe_one (pe_cmpR op_isN (pv 0) pe_non (nomark _)))))) pss_nil) (pss_cons (ps_if (PW.pt (pw_or (pt_val (pe_callB call_isi (by rfl) Z.isinstance_ (by decide +kernel) (pa_cons (pv 1) (pa_cons (pe_bltn (v := .ty "bool") (by rfl) Z.bool_ (by decide +kernel) rfl) pa_nil)))) (pw_or1 (pt_val (pe_callB call_isi (by rfl) Z.isinstance_ (by decide +kernel) (pa_cons (pv 0) (pa_cons (pe_bltn (v := .ty "bool") (by rfl) Z.bool_ (by decide +kernel) rfl) pa_nil))))))) (pss_one (ps_ret (pe_and (pe_callB call_isi (by rfl) Z.isinstance_ (by decide +kernel) (pa_cons (pv 1) (pa_cons (pe_bltn (v := .ty "bool") (by rfl) Z.bool_ (by decide +kernel) rfl) pa_nil))) (pe_and (pe_callB call_isi (by rfl) Z.isinstance_ (by decide +kernel) (pa_cons (pv 0) (pa_cons (pe_bltn (v := .ty "bool") (by rfl) Z.bool_ (by decide +kernel) rfl) pa_nil))) (pe_one (pe_cmpR op_eq (pv 0) (pv 1) (nomark _))))))) pss_nil) (pss_cons (ps_if (pt_val (pe_callB call_isi (by rfl) Z.isinstance_ (by decide +kernel) (pa_cons (pv 1) (pa_cons (pe_bltn (v := .ty "int") (by rfl) Z.int_ (by decide +kernel) rfl) pa_nil)))) (pss_one (ps_ret (pe_and (pe_callB call_isi (by rfl) Z.isinstance_ (by decide +kernel) (pa_cons (pv 0) (pa_cons (pe_bltn (v := .ty "int") (by rfl) Z.int_ (by decide +kernel) rfl) pa_nil))) (pe_one (pe_cmpR op_eq (pv 0) (pv 1) (nomark _)))))) pss_nil) (pss_one (ps_ret (pe_and (pe_callB call_isi (by rfl) Z.isinstance_ (by decide +kernel) (pa_cons (pv 1) (pa_cons (pe_bltn (v := .ty "str") (by rfl) Z.str_ (by decide +kernel) rfl) pa_nil))) (pe_and (pe_callB call_isi (by rfl) Z.isinstance_ (by decide +kernel) (pa_cons (pv 0) (pa_cons (pe_bltn (v := .ty "str") (by rfl) Z.str_ (by decide +kernel) rfl) pa_nil))) (pe_one (pe_cmpR op_eq (pv 0) (pv 1) (nomark _))))))))))), ?_⟩
    refine ⟨_, rfl, (by show 2 ≤ sizeLine; decide), fun t nt => ⟨u, t, _, _, _, _, rfl, upd_same, .cons (.ty _) (.cons (.ty _) .nil), ty_same (same_new nt) ru.ty, kit_lt d nd, _, rfl, ?_⟩⟩
    have s0 : Same H (upd H t (.tup [.ty "list", .ty "tuple"])) := same_new nt
    generalize upd H t (.tup [.ty "list", .ty "tuple"]) = H1 at s0 ⊢
    have rv1 := rv.to s0
    have ru1 := ru.to s0
    by_cases hseq : tyD d = "list" ∨ tyD d = "tuple"
    · -- the kinds, the lengths, then the items
      rw [decide_eq_true hseq]
      refine iteT ?_
      refine ⟨_, rfl, v, _, _, _, _, rfl, .ty "list", rv1.ty, kit_ty (kit_list d nd), _, rfl, u, _, _, _, _, rfl, .ty "list", ru1.ty, kit_ty (kit_list d nd), rfl, _, rfl, ?_⟩
      refine iteNS rfl ?_
      refine ⟨_, rfl, v, _, _, _, _, rfl, .ty "tuple", rv1.ty, kit_ty (kit_tuple d nd), _, rfl, u, _, _, _, _, rfl, .ty "tuple", ru1.ty, kit_ty (kit_tuple d nd), rfl, _, rfl, ?_⟩
      refine iteNS rfl ?_
      obtain ⟨p, r, xs, ys, ds, rfl, rfl, hp, hr2, rx, ry, hl, lvx⟩ := da_two rv1 ru1 hseq lv
      have l1 := rx.len
      have l2 := ry.len
      refine ⟨_, rfl, p, xs, rfl, hp, _, rfl, r, ys, rfl, hr2, rfl, _, rfl, ?_⟩
      refine ite2 (fun _ => ?_) (fun z => absurd (decide_eq_true (by rw [l1, l2])) z)
      refine ⟨_, rfl, r, ys, rfl, hr2, _, rfl, by omega, by omega, fun L nL => ?_⟩
      refine lc_range (lo := 0) (n := (ys.length : Int).toNat) (fun i H2 => Same H1 H2 ∧ H2 L = some (.lst ((List.replicate i true).map V.bl))) ⟨same_new nL, upd_same⟩ ?_ ?_
      · rintro i H2 hi ⟨s2, e2⟩
        have hi' : i < ys.length := by omega
        obtain ⟨x, hx⟩ : ∃ x, xs[i]? = some x := ⟨_, List.getElem?_eq_getElem (by omega)⟩
        obtain ⟨y, hy⟩ : ∃ y, ys[i]? = some y := ⟨_, List.getElem?_eq_getElem hi'⟩
        obtain ⟨e, he, re⟩ := rx.at hx
        obtain ⟨e', he', re'⟩ := ry.at hy
        rw [he] at he'
        cases he'
        refine ⟨rfl, _, rfl, _, rfl, ix_any (sq_any s2 hp) hx ⟨_, rfl, _, rfl, ix_any (sq_any s2 hr2) hy ⟨x, y, e, rfl, re.to s2, re'.to s2, lvx e (List.mem_of_getElem? he), fun H3 s3 => ?_⟩⟩⟩
        refine ⟨_, s3 _ _ e2, slineL (by rw [List.length_map, List.length_replicate]; omega), same_mut (s2.trans s3) nL, ?_⟩
        rw [upd_same, List.replicate_succ', List.map_append]
        rfl
      · rintro H2 ⟨s2, e2⟩
        refine ⟨L, _, rfl, .inl (.inl e2), ?_⟩
        have ea : (List.replicate (ys.length : Int).toNat true).all id = true := by
          rw [List.all_eq_true]
          intro b hb
          exact (List.mem_replicate.mp hb).2
        rw [ea]
        exact q H2 (s0.trans s2)
    rw [decide_eq_false hseq]
    refine iteF ?_
    have fin := q H1 s0
    cases d with
    | list ds => exact absurd (.inl rfl) hseq
    | tuple ds => exact absurd (.inr rfl) hseq
    | dict kvs => exact absurd rfl nd
    | none =>
      cases rv1
      cases ru1
      refine ⟨_, rfl, rfl, _, rfl, iteT ?_⟩
      exact ⟨_, rfl, rfl, _, rfl, iteT ⟨_, rfl, rfl, fin⟩⟩
    | bool b =>
      have hv : v = .bl b := by cases rv; rfl
      have hu : u = .bl b := by cases ru; rfl
      subst hv hu
      refine ⟨_, rfl, rfl, _, rfl, iteF ?_⟩
      refine ⟨_, rfl, rfl, _, rfl, iteF ?_⟩
      refine ⟨_, rfl, _, _, _, _, _, rfl, .ty "bool", ru1.ty, kit_ty (kit_bool _ nd), _, rfl, iteT ?_⟩
      refine ⟨_, rfl, _, _, _, _, _, rfl, .ty "bool", ru1.ty, kit_ty (kit_bool _ nd), _, rfl, iteT ?_⟩
      refine ⟨_, rfl, _, _, _, _, _, rfl, .ty "bool", rv1.ty, kit_ty (kit_bool _ nd), _, rfl, iteT ?_⟩
      refine ⟨_, rfl, _, rfl, rfl, ?_⟩
      rw [decide_eq_true rfl]
      exact fin
    | int b =>
      have hv : v = .int b := by cases rv; rfl
      have hu : u = .int b := by cases ru; rfl
      subst hv hu
      refine ⟨_, rfl, rfl, _, rfl, iteF ?_⟩
      refine ⟨_, rfl, rfl, _, rfl, iteF ?_⟩
      refine ⟨_, rfl, _, _, _, _, _, rfl, .ty "bool", ru1.ty, kit_ty (kit_bool _ nd), _, rfl, iteF ?_⟩
      refine ⟨_, rfl, _, _, _, _, _, rfl, .ty "bool", rv1.ty, kit_ty (kit_bool _ nd), _, rfl, iteF ?_⟩
      refine ⟨_, rfl, _, _, _, _, _, rfl, .ty "int", ru1.ty, kit_ty (kit_int _ nd), _, rfl, iteT ?_⟩
      refine ⟨_, rfl, _, _, _, _, _, rfl, .ty "int", rv1.ty, kit_ty (kit_int _ nd), _, rfl, iteT ?_⟩
      refine ⟨_, rfl, _, rfl, rfl, ?_⟩
      rw [decide_eq_true rfl]
      exact fin
    | str b =>
      have hv : v = .str b := by cases rv; rfl
      have hu : u = .str b := by cases ru; rfl
      subst hv hu
      refine ⟨_, rfl, rfl, _, rfl, iteF ?_⟩
      refine ⟨_, rfl, rfl, _, rfl, iteF ?_⟩
      refine ⟨_, rfl, _, _, _, _, _, rfl, .ty "bool", ru1.ty, kit_ty (kit_bool _ nd), _, rfl, iteF ?_⟩
      refine ⟨_, rfl, _, _, _, _, _, rfl, .ty "bool", rv1.ty, kit_ty (kit_bool _ nd), _, rfl, iteF ?_⟩
      refine ⟨_, rfl, _, _, _, _, _, rfl, .ty "int", ru1.ty, kit_ty (kit_int _ nd), _, rfl, iteF ?_⟩
      refine ⟨_, rfl, _, _, _, _, _, rfl, .ty "str", ru1.ty, kit_ty (kit_str _ nd), _, rfl, iteT ?_⟩
      refine ⟨_, rfl, _, _, _, _, _, rfl, .ty "str", rv1.ty, kit_ty (kit_str _ nd), _, rfl, iteT ?_⟩
      refine ⟨_, rfl, _, rfl, rfl, ?_⟩
      rw [decide_eq_true rfl]
      exact fin
theorem has_l_same (Z : Zs mg) (A : At K mg "_law_same" s_l_same ["_law_got", "_law_due"]) : Has P w K mg base "_law_same" s_l_same 6 ["_law_got", "_law_due"] (spSm K 6) := by
  obtain ⟨f, fd, F, mg1, bd⟩ := A
  refine ⟨f, fd, ?_, mg1, F.kp, bd, F⟩
  have G0 : FnOk P w K mg base CX0 0 f fd ["_law_got", "_law_due"] (spSm K 0) := ⟨fun vs H Q E h => by obtain ⟨v, u, d, rfl, _⟩ := h; rfl, fun A outer s H args us vs Q E hr he hb hv hs => by obtain ⟨v, u, d, rfl, _, _, z, _⟩ := hs; exact z.elim⟩
  exact same_step Z F mg1 bd 5 (same_step Z F mg1 bd 4 (same_step Z F mg1 bd 3 (same_step Z F mg1 bd 2 (same_step Z F mg1 bd 1 (same_step Z F mg1 bd 0 G0)))))
end
end Th
namespace Th
open PySem PySem.Spec PyProof.Rows L2
abbrev s_p_shows : Stmt := topS 50
theorem sc_p_shows : FnScope ["book", "facts", "entries", "statement", "fault"] ["book", "facts", "entries", "statement"] (defScope s_p_shows) := ⟨rfl, rfl, rfl, by decide +kernel, rfl, by decide +kernel, by decide +kernel⟩
theorem last_at {α : Type} {xs : List α} {v : α} (h : xs[xs.length - 1]? = some v) : atI xs (-1) = some v := by
  have l := lt_of_get h
  have e : xs = xs.take (xs.length - 1) ++ [v] := by
    have h2 := List.take_add_one (l := xs) (i := xs.length - 1)
    rw [h, show xs.length - 1 + 1 = xs.length by omega, List.take_length] at h2
    exact h2
  rw [e]
  exact atI_last _ _
def spShowsE (K : PySem.W.Frag) (C : Addr) : Sp := fun vs H Q _ => ∃ (b fa ea : Addr) (sv : V) (ys : List Str) (ms fs : List (Str × List Str)) (eus : List V) (ens : List (St × Str × List PyData)) (e : St × Str × List PyData) (st : St), vs = [.ref b, .ref fa, .ref ea, sv] ∧ BookW K H C b ys (ms.map wOf) ∧ ms.length ≤ 60 ∧ (∀ p ∈ ms, okW p) ∧ FactsAt K H fa ys fs ∧
  SqL K H ea eus ∧ TyX K H (.ref ea) (.type "list") ∧ DaAll K H eus (ens.map enOf) ∧ (∀ (i : Nat) e, ens[i]? = some e → enOk i e) ∧ ens.length ≤ 60 ∧ ens ≠ [] ∧ ens[ens.length - 1]? = some e ∧ Da K H sv (stOf st) ∧ okSt st ∧
  ∀ H', Same H H' → Q (.bl ((ffR ys ms fs ens).isNone && PyData.eqv (stOf e.1) (stOf st))) H'
section
variable {P : Program} {w : World} {K : PySem.W.Frag} {mg : Str → Option Value} {base : Heap} {CB : Addr}
theorem has_p_shows (Z : Zs mg) (B : ClsF K mg CB "Book" ["_finds", "_words"]) (A : At K mg "shows" s_p_shows ["book", "facts", "entries", "statement"]) (h_p_first_fault : HasX P w K mg base "first_fault" s_p_first_fault 12 ["book", "facts", "entries"] (spFF K CB)) : HasX P w K mg base "shows" s_p_shows 13 ["book", "facts", "entries", "statement"] (spShowsE K CB) := by
  obtain ⟨f, fd, F, mg1, bd⟩ := A
  obtain ⟨f_p_first_fault, fd_p_first_fault, G_p_first_fault, m_p_first_fault, k_p_first_fault, b_p_first_fault, F_p_first_fault⟩ := h_p_first_fault
  refine ⟨f, fd, ?_, mg1, F.kp, bd, F⟩
  refine F.okX sc_p_shows (fun vs H Q E h => ?_) (fun cdv A outer s H vs Q E hr h => ?_)
  · obtain ⟨b, fa, ea, sv, ys, ms, fs, eus, ens, e, st, rfl, _⟩ := h
    rfl
  · obtain ⟨b, fa, ea, sv, ys, ms, fs, eus, ens, e, st, rfl, bk, hlm, okm, hf, hea, tea, al, oke, hle, hne, hlast, rsv, okst, q⟩ := h
    refine ⟨_, (pss_cons (ps_set (i := 4) sc_p_shows.nd rfl (Or.inl rfl) (pe_call G_p_first_fault (hr.mono (by decide)) (by rfl) m_p_first_fault k_p_first_fault b_p_first_fault .nil (passes_call (takes_of rfl rfl rfl rfl) fun _ _ _ _ h => h) (pa_cons (pv 0) (pa_cons (pv 1) (pa_cons (pv 2) pa_nil))))) (pss_one (ps_ret (pe_and (pe_cmpR op_isN (pv 4) pe_non (nomark _)) (pe_and (pe_cmpR op_gt (pe_callB call_len_seq (by rfl) Z.len_ (by decide +kernel) (pa_cons (pv 2) pa_nil)) pe_int (nomark _)) (pe_one (pe_cmpR (op_eqD hr.units) (pe_ix ix_tup (pe_ix ix_list (pv 2) (pe_un un_neg pe_int) (fun _ _ => rfl)) pe_int (fun _ _ => rfl)) (pv 3) (nomark _)))))))), ?_⟩
    refine ⟨_, rfl, _, rfl, _, rfl, b, fa, ea, ys, ms, fs, eus, ens, rfl, bk, hlm, okm, hf, hea, tea, al, oke, hle, fun H1 s1 => ?_⟩
    have lal := al.len
    rw [List.length_map] at lal
    have q1 := q H1 s1
    have l0 : 0 < ens.length := List.length_pos_iff.mpr hne
    cases hff : ffR ys ms fs ens with
    | some i =>
      rw [hff] at q1
      refine ⟨_, rfl, rfl, _, rfl, iteF ?_⟩
      exact q1
    | none =>
      rw [hff] at q1
      refine ⟨_, rfl, rfl, _, rfl, iteT ?_⟩
      refine ⟨_, rfl, ea, eus, rfl, .inl (s1.seq hea), _, _, rfl, rfl, _, rfl, ite2 (fun _ => ?_) (fun z => ?_)⟩
      · obtain ⟨v, hv, rv⟩ := (al.to s1).at' (i := ens.length - 1) (d := enOf e) (by rw [List.getElem?_map, hlast]; rfl)
        obtain ⟨a, b', u, rfl, h1, h2, _⟩ := rv.eN
        refine ⟨_, rfl, 1, rfl, ea, eus, -1, .ref a, rfl, rfl, s1.seq hea, ?_, a, _, 0, u, rfl, rfl, h1, rfl, ?_⟩
        · exact last_at (by rw [lal]; exact hv)
        refine ⟨_, rfl, stOf e.1, stOf st, Da.dp _ _ h2, Da.dp _ _ (rsv.to s1), st_shaped (oke _ _ hlast).1, st_shaped okst, ?_⟩
        exact q1
      · exact absurd (decide_eq_true (show ((eus.length : Nat) : Int) > 0 by omega)) z
end
end Th
namespace Th
open PySem PySem.Spec PyProof.Rows L2
abbrev s_p_law : Stmt := topS 96
theorem sc_p_law : FnScope ["_law_script", "_law_state", "_law_pool", "_law_labels", "_law_p", "_law_q", "_law_made", "_law_turn", "_law_u", "_law_v", "_law_claims", "_law_rows", "_law_x", "_law_y", "_law_said", "_law_due", "_law_some", "_law_told", "_law_entry", "_law_good", "_law_spot"] ["_law_script"] (defScope s_p_law) := ⟨rfl, rfl, rfl, by decide +kernel, rfl, by decide +kernel, by decide +kernel⟩
def spLawK (K : PySem.W.Frag) : Sp := fun vs H Q _ => ∃ (a : Addr) (ns : List Int), vs = [.ref a] ∧ SqL K H a (ns.map V.int) ∧ ns.length ≤ 63 ∧ ∀ H', Q (.bl true) H'
theorem eqv_lot (xs : List Str) : PyData.eqv (stOf (.lot xs)) (stOf (.lot xs)) = true := by
  have e1 : PyData.eqv (stOf (.lot xs)) (stOf (.lot xs)) = (PyData.eqv (.str "lot") (.str "lot") && (PyData.eqv (.tuple (xs.map .str)) (.tuple (xs.map .str)) && PyData.eqvAll [] [])) := by simp [stOf, PyData.eqv, PyData.eqvAll]
  have e2 : PyData.eqv (.tuple (xs.map .str)) (.tuple (xs.map .str)) = PyData.eqvAll (xs.map .str) (xs.map .str) := by simp [PyData.eqv]
  rw [e1, e2, eqv_strs, decide_eq_true rfl, eqv_str, show eqS (.str "lot") "lot" = true from eqS_iff.mpr rfl]
  simp [PyData.eqvAll]
theorem eqv_bef (x y : Str) : PyData.eqv (.tuple ((Str.ofString "before" :: [x, y]).map .str)) (stOf (.bef x y)) = true := by
  have e : stOf (.bef x y) = .tuple ((Str.ofString "before" :: [x, y]).map .str) := rfl
  have e2 : PyData.eqv (.tuple ((Str.ofString "before" :: [x, y]).map .str)) (.tuple ((Str.ofString "before" :: [x, y]).map .str)) = PyData.eqvAll ((Str.ofString "before" :: [x, y]).map .str) ((Str.ofString "before" :: [x, y]).map .str) := by simp [PyData.eqv]
  rw [e, e2, eqv_strs]
  exact decide_eq_true rfl
/-- the four entries of a turn -/
def four (ps qs : List Str) (m0 m1 m2 u v x y r : Str) (el : List PyData) : List (St × Str × List PyData) :=
  [(.lot ps, "word", [.str m0]), (.lot qs, "word", [.str m1]), (.bef u v, "fact", [.str m2]), (.bef x y, r, el)]
theorem ff_four {ys ps qs : List Str} {m0 m1 m2 u v x y r : Str} {el : List PyData} (hne : m0 ≠ m1) (hu : u ∈ ys) (hv : v ∈ ys) :
    ffR ys [(m0, ps), (m1, qs)] [(m2, ["before", u, v])] (four ps qs m0 m1 m2 u v x y r el) = if rightR ys [(m0, ps), (m1, qs)] [(m2, ["before", u, v])] [.lot ps, .lot qs, .bef u v, .bef x y] (.bef x y) r el = true then none else some 3 := by
  have w0 : wordR [(m0, ps), (m1, qs)] m0 (.lot ps) = true := by
    unfold wordR
    rw [List.find?_cons, decide_eq_true (show ((m0, ps) : Str × List Str).1 = m0 from rfl)]
    exact eqv_lot ps
  have w1 : wordR [(m0, ps), (m1, qs)] m1 (.lot qs) = true := by
    unfold wordR
    rw [List.find?_cons, decide_eq_false (show ¬ ((m0, ps) : Str × List Str).1 = m1 from hne), List.find?_cons, decide_eq_true (show ((m1, qs) : Str × List Str).1 = m1 from rfl)]
    exact eqv_lot qs
  have w2 : factR ys [(m2, ["before", u, v])] m2 (.bef u v) = true := by
    have e1 : ([(m2, [Str.ofString "before", u, v])].filter fun p => decide (p.1 = m2)) = [(m2, [Str.ofString "before", u, v])] := by
      rw [List.filter_cons, if_pos (decide_eq_true rfl)]
      rfl
    show ((([(m2, [Str.ofString "before", u, v])].filter fun p => decide (p.1 = m2)).any fun p => saysF p.2 u v) && ([u, v].all fun z => decide (z ∈ ys))) = true
    rw [e1]
    refine Bool.and_eq_true_iff.mpr ⟨?_, ?_⟩
    · show (saysB "before" [u, v] u v || false) = true
      unfold saysB
      rw [if_neg (by decide +kernel), if_neg (by decide +kernel), eqv_bef]
      rfl
    · rw [List.all_eq_true]
      intro z hz
      rcases List.mem_cons.mp hz with e | hz
      · rw [e]; exact decide_eq_true hu
      · rw [List.mem_singleton.mp hz]; exact decide_eq_true hv
  have r0 : rightR ys [(m0, ps), (m1, qs)] [(m2, ["before", u, v])] [.lot ps, .lot qs, .bef u v, .bef x y] (.lot ps) "word" [.str m0] = true := by
    unfold rightR
    rw [if_pos rfl]
    exact w0
  have r1 : rightR ys [(m0, ps), (m1, qs)] [(m2, ["before", u, v])] [.lot ps, .lot qs, .bef u v, .bef x y] (.lot qs) "word" [.str m1] = true := by
    unfold rightR
    rw [if_pos rfl]
    exact w1
  have r2 : rightR ys [(m0, ps), (m1, qs)] [(m2, ["before", u, v])] [.lot ps, .lot qs, .bef u v, .bef x y] (.bef u v) "fact" [.str m2] = true := by
    unfold rightR
    rw [if_neg (by decide +kernel), if_pos rfl]
    exact w2
  unfold ffR
  cases hr : rightR ys [(m0, ps), (m1, qs)] [(m2, ["before", u, v])] [.lot ps, .lot qs, .bef u v, .bef x y] (.bef x y) r el with
  | true =>
    rw [if_pos rfl]
    refine firstIx_none fun j hj => ?_
    match j, hj with
    | 0, _ => show (!rightR _ _ _ _ _ _ _) = false; rw [show rightR ys [(m0, ps), (m1, qs)] [(m2, ["before", u, v])] ((four ps qs m0 m1 m2 u v x y r el).map (·.1)) (.lot ps) "word" [.str m0] = true from r0]; rfl
    | 1, _ => show (!rightR _ _ _ _ _ _ _) = false; rw [show rightR ys [(m0, ps), (m1, qs)] [(m2, ["before", u, v])] ((four ps qs m0 m1 m2 u v x y r el).map (·.1)) (.lot qs) "word" [.str m1] = true from r1]; rfl
    | 2, _ => show (!rightR _ _ _ _ _ _ _) = false; rw [show rightR ys [(m0, ps), (m1, qs)] [(m2, ["before", u, v])] ((four ps qs m0 m1 m2 u v x y r el).map (·.1)) (.bef u v) "fact" [.str m2] = true from r2]; rfl
    | 3, _ => show (!rightR _ _ _ _ _ _ _) = false; rw [show rightR ys [(m0, ps), (m1, qs)] [(m2, ["before", u, v])] ((four ps qs m0 m1 m2 u v x y r el).map (·.1)) (.bef x y) r el = true from hr]; rfl
    | n + 4, h => exact absurd h (by show ¬ n + 4 < 4; omega)
  | false =>
    rw [if_neg Bool.false_ne_true]
    refine firstIx_some (by show 3 < 4; decide) (by show (!rightR _ _ _ _ _ _ _) = true; rw [show rightR ys [(m0, ps), (m1, qs)] [(m2, ["before", u, v])] ((four ps qs m0 m1 m2 u v x y r el).map (·.1)) (.bef x y) r el = false from hr]; rfl) fun j hj => ?_
    match j, hj with
    | 0, _ => show (!rightR _ _ _ _ _ _ _) = false; rw [show rightR ys [(m0, ps), (m1, qs)] [(m2, ["before", u, v])] ((four ps qs m0 m1 m2 u v x y r el).map (·.1)) (.lot ps) "word" [.str m0] = true from r0]; rfl
    | 1, _ => show (!rightR _ _ _ _ _ _ _) = false; rw [show rightR ys [(m0, ps), (m1, qs)] [(m2, ["before", u, v])] ((four ps qs m0 m1 m2 u v x y r el).map (·.1)) (.lot qs) "word" [.str m1] = true from r1]; rfl
    | 2, _ => show (!rightR _ _ _ _ _ _ _) = false; rw [show rightR ys [(m0, ps), (m1, qs)] [(m2, ["before", u, v])] ((four ps qs m0 m1 m2 u v x y r el).map (·.1)) (.bef u v) "fact" [.str m2] = true from r2]; rfl
    | n + 3, h => exact absurd h (by omega)
theorem st_lv {s : St} (h : okSt s) : Lv 5 (stOf s) := by
  have : Lv 2 (stOf s) := by
    cases s with
    | lot xs => exact ⟨by show 2 ≤ 60; decide, fun d hd => by
        rcases List.mem_cons.mp hd with e | hd
        · rw [e]; exact lv_of _ _ (by decide +kernel)
        · rw [List.mem_singleton.mp hd]; exact lv_lot h.2.1 h.2.2.2⟩
    | bef x y => exact ⟨by show 3 ≤ 60; decide, fun d hd => by
        rcases List.mem_cons.mp hd with e | hd
        · rw [e]; exact lv_of _ _ (by decide +kernel)
        rcases List.mem_cons.mp hd with e | hd
        · rw [e]; exact lv_nm h.1
        · rw [List.mem_singleton.mp hd]; exact lv_nm h.2⟩
    | nev => exact lv_of _ _ (by decide +kernel)
  exact this.up.up.up
theorem st_ok {s : St} (h : okSt s) : stD (stOf s) = true := by
  cases s with
  | lot xs =>
    have e : (xs.map PyData.str).map strD = xs := by
      rw [List.map_map]
      exact (List.map_congr_left fun _ _ => rfl).trans (List.map_id xs)
    have hl : lotD (.tuple (xs.map .str)) = true := by
      rw [lotD_tup, e, h.2.2.1, Bool.and_true]
      refine Bool.and_eq_true_iff.mpr ⟨?_, ?_⟩
      · cases xs with
        | nil => exact absurd rfl h.1
        | cons _ _ => rfl
      · rw [List.all_map, List.all_eq_true]
        exact fun x hx => h.2.1 x hx
    have z : stD (stOf (.lot xs)) = (if Str.ofString "lot" = "lot" then (([PyData.tuple (xs.map .str)] : List PyData).length == 1 && [PyData.tuple (xs.map .str)].all lotD) else if Str.ofString "lot" = "before" then (([PyData.tuple (xs.map .str)] : List PyData).length == 2 && [PyData.tuple (xs.map .str)].all nmD) else (decide (Str.ofString "lot" = "never") && ([PyData.tuple (xs.map .str)] : List PyData).isEmpty)) := rfl
    rw [z, if_pos rfl]
    show (true && (lotD (.tuple (xs.map .str)) && true)) = true
    rw [hl]
    rfl
  | bef x y =>
    have z : stD (stOf (.bef x y)) = (if Str.ofString "before" = "lot" then (([PyData.str x, .str y] : List PyData).length == 1 && [PyData.str x, .str y].all lotD) else if Str.ofString "before" = "before" then (([PyData.str x, .str y] : List PyData).length == 2 && [PyData.str x, .str y].all nmD) else (decide (Str.ofString "before" = "never") && ([PyData.str x, .str y] : List PyData).isEmpty)) := rfl
    rw [z, if_neg (by decide +kernel), if_pos rfl]
    show (true && (isNm x && (isNm y && true))) = true
    rw [h.1, h.2]
    rfl
  | nev => decide +kernel
theorem en_ok {i : Nat} {s : St} {r : Str} {el : List PyData} (h : okSt s) (he : eldOk i r el) (hd : eldD i r (.tuple el) = true) (lr : Lv 5 (.str r)) (le : Lv 5 (.tuple el)) : enOk i (s, r, el) := by
  refine ⟨h, he, ?_, ⟨by show 3 ≤ 60; decide, fun d hd' => ?_⟩⟩
  · show (stD (stOf s) && eldD i r (.tuple el)) = true
    rw [st_ok h, hd]
    rfl
  · rcases List.mem_cons.mp hd' with e | hd'
    · rw [e]; exact st_lv h
    rcases List.mem_cons.mp hd' with e | hd'
    · rw [e]; exact lr
    · rw [List.mem_singleton.mp hd']; exact le
theorem eld_mark {i : Nat} {r m : Str} (h : r = "word" ∨ r = "fact") : eldD i r (.tuple [.str m]) = true := by
  rcases h with rfl | rfl
  · unfold eldD
    rw [show manyE "word" = some 1 by decide +kernel]
    show (true && (decide (Str.ofString "word" ∈ [Str.ofString "word", Str.ofString "fact"]) || _)) = true
    rw [show decide (Str.ofString "word" ∈ [Str.ofString "word", Str.ofString "fact"]) = true by decide +kernel]
    rfl
  · unfold eldD
    rw [show manyE "fact" = some 1 by decide +kernel]
    show (true && (decide (Str.ofString "fact" ∈ [Str.ofString "word", Str.ofString "fact"]) || _)) = true
    rw [show decide (Str.ofString "fact" ∈ [Str.ofString "word", Str.ofString "fact"]) = true by decide +kernel]
    rfl
theorem lv_mark {m : Str} (h : isNm m = true) : Lv 5 (.tuple [.str m]) := ⟨by show 1 ≤ 60; decide, fun d hd => by rw [List.mem_singleton.mp hd]; exact lv_nm h⟩
/-- the two ways that the elders go -/
def elds : List (List PyData) := [[.int 0, .int 1, .int 2], [.int 1, .int 0, .int 2]]
theorem four_ok {ps qs : List Str} {m0 m1 m2 u v x y r : Str} {el : List PyData} (okp : okSt (.lot ps)) (okq : okSt (.lot qs)) (h0 : isNm m0 = true) (h1 : isNm m1 = true) (h2 : isNm m2 = true) (hu : isNm u = true) (hv : isNm v = true) (hx : isNm x = true) (hy : isNm y = true)
    (hr : r = "apart" ∨ r = "across") (hel : el ∈ elds) : ∀ (i : Nat) e, (four ps qs m0 m1 m2 u v x y r el)[i]? = some e → enOk i e := fun i e he => by
  match i, he with
  | 0, he => cases he; exact en_ok okp (.inl ⟨.inl rfl, _, rfl⟩) (eld_mark (.inl rfl)) (lv_of _ _ (by decide +kernel)) (lv_mark h0)
  | 1, he => cases he; exact en_ok okq (.inl ⟨.inl rfl, _, rfl⟩) (eld_mark (.inl rfl)) (lv_of _ _ (by decide +kernel)) (lv_mark h1)
  | 2, he => cases he; exact en_ok (s := .bef u v) ⟨hu, hv⟩ (.inl ⟨.inr rfl, _, rfl⟩) (eld_mark (.inr rfl)) (lv_of _ _ (by decide +kernel)) (lv_mark h2)
  | 3, he =>
    cases he
    have k : eldOk 3 r el := by
      simp only [elds, List.mem_cons, List.not_mem_nil, or_false] at hel
      rcases hel with rfl | rfl
      · exact .inr ⟨hr, 0, 1, 2, rfl, by decide, by decide, by decide⟩
      · exact .inr ⟨hr, 1, 0, 2, rfl, by decide, by decide, by decide⟩
    have kd : eldD 3 r (.tuple el) = true := by
      simp only [elds, List.mem_cons, List.not_mem_nil, or_false] at hel
      rcases hel with rfl | rfl <;> rcases hr with rfl | rfl <;> decide +kernel
    have kl : Lv 5 (.tuple el) := by
      simp only [elds, List.mem_cons, List.not_mem_nil, or_false] at hel
      rcases hel with rfl | rfl <;> exact lv_of _ _ (by decide +kernel)
    have kr : Lv 5 (.str r) := by rcases hr with rfl | rfl <;> exact lv_of _ _ (by decide +kernel)
    exact en_ok (s := .bef x y) ⟨hx, hy⟩ k kd kr kl
theorem pick_012 (a b c d : St) : pickS [a, b, c, d] [.int 0, .int 1, .int 2] = [a, b, c] := rfl
theorem pick_102 (a b c d : St) : pickS [a, b, c, d] [.int 1, .int 0, .int 2] = [b, a, c] := rfl
/-- what is due of the fourth entry -/
theorem right_due {ys ps qs : List Str} {ms fs : List (Str × List Str)} {u v x y : Str} {s : St} :
    rightR ys ms fs [.lot ps, .lot qs, .bef u v, s] (.bef x y) "across" [.int 0, .int 1, .int 2] = (ovB ps qs && acrossB ps qs u v x y) ∧
    rightR ys ms fs [.lot ps, .lot qs, .bef u v, s] (.bef x y) "across" [.int 1, .int 0, .int 2] = (ovB qs ps && acrossB qs ps u v x y) ∧
    rightR ys ms fs [.lot ps, .lot qs, .bef u v, s] (.bef x y) "apart" [.int 0, .int 1, .int 2] = ((ps.all fun x => !decide (x ∈ qs)) && ([(u, v), (x, y)].all fun p => decide (p.1 ∈ ps) && decide (p.2 ∈ qs))) ∧
    rightR ys ms fs [.lot ps, .lot qs, .bef u v, s] (.bef x y) "apart" [.int 1, .int 0, .int 2] = ((qs.all fun x => !decide (x ∈ ps)) && ([(u, v), (x, y)].all fun p => decide (p.1 ∈ qs) && decide (p.2 ∈ ps))) := by
  refine ⟨?_, ?_, ?_, ?_⟩
  · unfold rightR
    rw [if_neg (by decide +kernel), if_neg (by decide +kernel), if_neg (by decide +kernel), if_pos rfl]
    rfl
  · unfold rightR
    rw [if_neg (by decide +kernel), if_neg (by decide +kernel), if_neg (by decide +kernel), if_pos rfl]
    rfl
  · unfold rightR
    rw [if_neg (by decide +kernel), if_neg (by decide +kernel), if_pos rfl]
    rfl
  · unfold rightR
    rw [if_neg (by decide +kernel), if_neg (by decide +kernel), if_pos rfl]
    rfl
theorem lst_ne {D : DS} {H : Hp} {a : Addr} {us : List V} (d : Drw D H) (e : H a = some (.lst us)) (n : us.length ≠ 5) : a ≠ D.p := fun z => by
  obtain ⟨_, _, _, i, v, m, c, st, _⟩ := d
  rw [z, st] at e
  cases e
  exact n rfl
theorem fact_ok {m u v : Str} (hm : isNm m = true) (hu : isNm u = true) (hv : isNm v = true) : mfD (wOf (m, ["before", u, v])) = true := by
  show (isNm m && factD (.tuple (.str "before" :: [u, v].map .str))) = true
  rw [hm, factD_str]
  rw [show manyN "before" = some 2 by decide +kernel]
  show (true && ((2 == 2) && (isNm u && (isNm v && true)))) = true
  rw [hu, hv]
  rfl
theorem lv_fact3 {u v : Str} (hu : isNm u = true) (hv : isNm v = true) : Lv 3 (.tuple ([Str.ofString "before", u, v].map .str)) := ⟨by show 3 ≤ 60; decide, fun d hd => by
  rcases List.mem_cons.mp hd with e | hd
  · rw [e]; exact lv_of _ _ (by decide +kernel)
  rcases List.mem_cons.mp hd with e | hd
  · rw [e]; exact lv_nm hu
  · rw [List.mem_singleton.mp hd]; exact lv_nm hv⟩
theorem facts_ok {K : PySem.W.Frag} {H : Hp} {CL F2 F1 : Addr} {ys : List Str} {m u v : Str} (eCL : H CL = some (.lst [.ref F2])) (eF2 : H F2 = some (.tup [.str m, .ref F1])) (eF1 : H F1 = some (.tup [.str "before", .str u, .str v]))
    (hm : isNm m = true) (hu : isNm u = true) (hv : isNm v = true) (mu : u ∈ ys) (mv : v ∈ ys) : FactsAt K H CL ys [(m, ["before", u, v])] := by
  have dF : Da K H (.ref F1) (.tuple ([Str.ofString "before", u, v].map .str)) := Da.newT eF1 (DaAll.strs [Str.ofString "before", u, v])
  refine ⟨Da.newL eCL (.cons (Da.newT eF2 (.cons (.str _) (.cons dF .nil))) .nil), fun e he => ?_, ?_, by show 1 ≤ 60; decide, fun p hp => ?_⟩
  · rw [List.mem_singleton.mp he]
    refine ⟨by show 2 ≤ 60; decide, fun d hd => ?_⟩
    rcases List.mem_cons.mp hd with e | hd
    · rw [e]; exact lv_nm hm
    · rw [List.mem_singleton.mp hd]; exact (lv_fact3 hu hv).up.up
  · rw [due_end (ds := [wOf (m, ["before", u, v])]) rfl (by show 1 ≤ 30; decide) (fun j e' he => by
      match j, he with
      | 0, he => cases he; exact fact_ok hm hu hv) (dupAt_none fun j y hj => by
      match j, hj with
      | 0, hj => exact fun z => nomatch z)]
    rw [List.find?_eq_none.mpr fun x hx => by
      have hx' : x ∈ [u, v] := by simpa [namesOf, wOf, strD] using hx
      rcases List.mem_cons.mp hx' with e | hx'
      · rw [e]; simpa using mu
      · rw [List.mem_singleton.mp hx']; simpa using mv]
    rfl
  · rw [List.mem_singleton.mp hp]
    exact ⟨⟨_, _, rfl, List.cons_ne_nil _ _⟩, lv_fact3 hu hv⟩
theorem da_told {K : PySem.W.Frag} {H : Hp} : ∀ bs : List Bool, DaAll K H (bs.map fun d => if d = true then V.non else .int 3) (bs.map fun d => if d = true then PyData.none else .int 3)
  | [] => .nil
  | true :: r => .cons .non (da_told r)
  | false :: r => .cons (.int _) (da_told r)
theorem lv_told : ∀ b0 b1 b2 b3 : Bool, LvN 6 (.list ([b0, b1, b2, b3].map fun d => if d = true then PyData.none else .int 3)) := by
  intro b0 b1 b2 b3
  cases b0 <;> cases b1 <;> cases b2 <;> cases b3 <;> exact lv_of 5 _ (by decide +kernel)
theorem ref_ite {c : Bool} {A B : Addr} : (if c = true then V.ref A else V.ref B) = V.ref (if c = true then A else B) := by cases c <;> rfl
theorem ite_var {c : Bool} {A B : V} {Q : V → Prop} (h : Q (if c = true then A else B)) : if c = true then (∃ v, some (some A) = some (some v) ∧ Q v) else (∃ v, some (some B) = some (some v) ∧ Q v) := by
  cases c with
  | true => exact ⟨_, rfl, h⟩
  | false => exact ⟨_, rfl, h⟩
theorem gl_ris {xs ps : List Str} (g : GoodL xs ps) : risB ps = true := (lot_iff (once_perm g.2.1).symm g.2.2.2.2).mp rfl
theorem gl_nm {xs ps : List Str} (g : GoodL xs ps) (n : Nms xs) : ∀ x ∈ ps, isNm x = true := fun x hx => n.2 x (g.2.2.1 x hx)
theorem gl_in {xs ps : List Str} (g : GoodL xs ps) (n : Nms xs) : lotIn xs (.tuple (ps.map .str)) = true := by
  have e : (ps.map PyData.str).map strD = ps := by
    rw [List.map_map]
    exact (List.map_congr_left fun _ _ => rfl).trans (List.map_id ps)
  show (lotD (.tuple (ps.map .str)) && ((ps.map PyData.str).map strD).all fun y => decide (y ∈ xs)) = true
  rw [lotD_tup, e, gl_ris g, Bool.and_true]
  refine Bool.and_eq_true_iff.mpr ⟨Bool.and_eq_true_iff.mpr ⟨?_, ?_⟩, ?_⟩
  · cases ps with
    | nil => exact absurd rfl g.1
    | cons _ _ => rfl
  · rw [List.all_map, List.all_eq_true]
    exact fun x hx => gl_nm g n x hx
  · exact List.all_eq_true.mpr fun x hx => decide_eq_true (g.2.2.1 x hx)
theorem gl_ok {xs ps : List Str} (g : GoodL xs ps) (n : Nms xs) (l : xs.length ≤ 60) : okSt (.lot ps) := ⟨g.1, gl_nm g n, gl_ris g, Nat.le_trans g.2.2.2.1 l⟩
theorem bk_two {xs ps qs : List Str} {m0 m1 : Str} (n : Nms xs) (ne : xs ≠ []) (l : xs.length ≤ 12) (h0 : isNm m0 = true) (h1 : isNm m1 = true) (hne : m0 ≠ m1) (gp : GoodL xs ps) (gq : GoodL xs qs) :
    bkDue (.list (xs.map .str)) (.list ([(m0, ps), (m1, qs)].map wOf)) = none := by
  have hc : ckDue (.list (xs.map .str)) = none := ck_good (ds := xs.map .str) rfl (by rw [List.length_map]; exact fun z => ne (List.length_eq_zero_iff.mp z)) (by rw [List.length_map]; exact l) fun j e he => by
    obtain ⟨x, hx, rfl⟩ := getmap he
    refine ⟨n.2 x (List.mem_of_getElem? hx), fun z => ?_⟩
    rw [← List.map_take, List.map_map] at z
    obtain ⟨y, hy, ey⟩ := List.mem_map.mp z
    obtain ⟨k, hk⟩ := List.getElem?_of_mem hy
    rw [List.getElem?_take] at hk
    have ey' : y = x := ey
    split at hk
    · rename_i w
      have := nodup_at n.1 hx (by rw [← ey']; exact hk)
      omega
    · cases hk
  rw [bk_wd hc, names_of (xs := xs) rfl]
  refine wd_good (ds := [(m0, ps), (m1, qs)].map wOf) rfl (by show 2 ≤ 40; decide) (fun j e he => ?_) ?_
  · match j, he with
    | 0, he => cases he; show (isNm m0 && lotIn xs _) = true; rw [h0, gl_in gp n]; rfl
    | 1, he => cases he; show (isNm m1 && lotIn xs _) = true; rw [h1, gl_in gq n]; rfl
  · refine dupAt_none fun j y hj => ?_
    match j, hj with
    | 0, hj => exact fun z => nomatch z
    | 1, hj =>
      cases hj
      intro z
      have : m1 = m0 := List.mem_singleton.mp z
      exact hne this.symm
section
variable {P : Program} {w : World} {K : PySem.W.Frag} {mg : Str → Option Value} {base : Heap} {CB : Addr}
theorem has_p_law (Z : Zs mg) (B : ClsF K mg CB "Book" ["_finds", "_words"]) (A : At K mg "law" s_p_law ["_law_script"]) (h_l_start : Has P w K mg base "_law_start" s_l_start 1 ["_law_script", "_law_own"] (spStart K)) (h_l_pick : Has P w K mg base "_law_pick" s_l_pick 2 ["_law_state", "_law_pool"] (spPickC K true)) (h_l_names : Has P w K mg base "_law_names" s_l_names 3 ["_law_state", "_law_many"] (spNames K)) (h_l_lots : Has P w K mg base "_law_lots" s_l_lots 4 ["_law_state", "_law_pool"] (spLots K)) (h_c_Book_init : HasI P w K mg base CB 10 ["self", "finds", "words"] (dNone K) (spBookI K mg CB)) (h_l_across_due : Has P w K mg base "_law_across_due" s_l_across_due 3 ["_law_p", "_law_q", "_law_u", "_law_v", "_law_x", "_law_y"] (spAcDue K)) (h_l_apart_due : Has P w K mg base "_law_apart_due" s_l_apart_due 1 ["_law_p", "_law_q", "_law_u", "_law_v", "_law_x", "_law_y"] (spApDue K)) (h_p_first_fault : HasX P w K mg base "first_fault" s_p_first_fault 12 ["book", "facts", "entries"] (spFF K CB)) (h_l_same : Has P w K mg base "_law_same" s_l_same 6 ["_law_got", "_law_due"] (spSm K 6)) (h_l_draw : Has P w K mg base "_law_draw" s_l_draw 1 ["_law_state", "_law_many"] (spDraw)) (h_p_shows : HasX P w K mg base "shows" s_p_shows 13 ["book", "facts", "entries", "statement"] (spShowsE K CB)) : Has P w K mg base "law" s_p_law 15 ["_law_script"] (spLawK K) := by
  obtain ⟨f, fd, F, mg1, bd⟩ := A
  obtain ⟨f_l_start, fd_l_start, G_l_start, m_l_start, k_l_start, b_l_start, F_l_start⟩ := h_l_start
  obtain ⟨f_l_pick, fd_l_pick, G_l_pick, m_l_pick, k_l_pick, b_l_pick, F_l_pick⟩ := h_l_pick
  obtain ⟨f_l_names, fd_l_names, G_l_names, m_l_names, k_l_names, b_l_names, F_l_names⟩ := h_l_names
  obtain ⟨f_l_lots, fd_l_lots, G_l_lots, m_l_lots, k_l_lots, b_l_lots, F_l_lots⟩ := h_l_lots
  obtain ⟨fI_c_Book_init, fd_c_Book_init, ds_c_Book_init, dv_c_Book_init, MK_c_Book_init, G_c_Book_init, b_c_Book_init, dd_c_Book_init, dq_c_Book_init⟩ := h_c_Book_init
  obtain ⟨f_l_across_due, fd_l_across_due, G_l_across_due, m_l_across_due, k_l_across_due, b_l_across_due, F_l_across_due⟩ := h_l_across_due
  obtain ⟨f_l_apart_due, fd_l_apart_due, G_l_apart_due, m_l_apart_due, k_l_apart_due, b_l_apart_due, F_l_apart_due⟩ := h_l_apart_due
  obtain ⟨f_p_first_fault, fd_p_first_fault, G_p_first_fault, m_p_first_fault, k_p_first_fault, b_p_first_fault, F_p_first_fault⟩ := h_p_first_fault
  obtain ⟨f_l_same, fd_l_same, G_l_same, m_l_same, k_l_same, b_l_same, F_l_same⟩ := h_l_same
  obtain ⟨f_l_draw, fd_l_draw, G_l_draw, m_l_draw, k_l_draw, b_l_draw, F_l_draw⟩ := h_l_draw
  obtain ⟨f_p_shows, fd_p_shows, G_p_shows, m_p_shows, k_p_shows, b_p_shows, F_p_shows⟩ := h_p_shows
  refine ⟨f, fd, ?_, mg1, F.kp, bd, F⟩
  refine F.ok sc_p_law (fun vs H Q E h => ?_) (fun cdv A outer s H vs Q E hr h => ?_)
  · obtain ⟨a, ns, rfl, _⟩ := h
    rfl
  · obtain ⟨a, ns, rfl, hS, hlen, q⟩ := h
    have hdv : dv_c_Book_init = [] := dq_c_Book_init
    subst hdv
    refine ⟨_, (pss_cons (ps_set (i := 1) sc_p_law.nd rfl (Or.inl rfl) (pe_call G_l_start (hr.mono (by decide)) (by rfl) m_l_start k_l_start b_l_start .nil pass0 (pa_cons (pv 0) (pa_cons pe_int pa_nil)))) (pss_cons (ps_par (i := 2) (j := 3) (by rfl) sc_p_law.nd rfl rfl (by decide) rfl rfl (pa_cons (pe_call G_l_names (hr.mono (by decide)) (by rfl) m_l_names k_l_names b_l_names .nil pass0 (pa_cons (pv 1) (pa_cons (pe_call G_l_pick (hr.mono (by decide)) (by rfl) m_l_pick k_l_pick b_l_pick .nil pass0 (pa_cons (pv 1) (pa_cons (pe_lst (pa_cons pe_int (pa_cons pe_int (pa_cons pe_int (pa_cons pe_int (pa_cons pe_int pa_nil)))))) pa_nil))) pa_nil))) (pa_cons (pe_call G_l_names (hr.mono (by decide)) (by rfl) m_l_names k_l_names b_l_names .nil pass0 (pa_cons (pv 1) (pa_cons pe_int pa_nil))) pa_nil)) (by rfl)) (pss_cons (ps_asg (pe_call G_l_lots (hr.mono (by decide)) (by rfl) m_l_lots k_l_lots b_l_lots .nil pass0 (pa_cons (pv 1) (pa_cons (pv 2) pa_nil))) (pg_tup (by rfl) (pgs_cons (pg_name (i := 4) sc_p_law.nd rfl (Or.inl rfl)) (pgs_cons (pg_name (i := 5) sc_p_law.nd rfl (Or.inl rfl)) pgs_nil)))) (pss_cons (ps_set (i := 6) sc_p_law.nd rfl (Or.inr rfl) (pe_make MK_c_Book_init G_c_Book_init (hr.mono (by decide)) (by rfl) B.m b_c_Book_init dd_c_Book_init passF (pa_cons (pv 2) (pa_cons (pe_lst (pa_cons (pe_tup (pa_cons (pe_ix ix_list (pv 3) pe_int (fun _ _ => rfl)) (pa_cons (pv 4) pa_nil))) (pa_cons (pe_tup (pa_cons (pe_ix ix_list (pv 3) pe_int (fun _ _ => rfl)) (pa_cons (pv 5) pa_nil))) pa_nil))) pa_nil)))) (pss_cons (ps_for PassesOwn.never rfl (pi_range1 (by rfl) Z.range_ (pa_cons pe_int pa_nil)) (pg_name (i := 7) sc_p_law.nd rfl (Or.inl rfl)) (pss_cons (ps_par (i := 8) (j := 9) (by rfl) sc_p_law.nd rfl rfl (by decide) rfl rfl (pa_cons (pe_call G_l_pick (hr.mono (by decide)) (by rfl) m_l_pick k_l_pick b_l_pick .nil pass0 (pa_cons (pv 1) (pa_cons (pe_ifExp (pt_cmpR op_eq (pv 7) pe_int (nomark _)) (pv 4) (pv 2)) pa_nil))) (pa_cons (pe_call G_l_pick (hr.mono (by decide)) (by rfl) m_l_pick k_l_pick b_l_pick .nil pass0 (pa_cons (pv 1) (pa_cons (pe_ifExp (pt_cmpR op_eq (pv 7) pe_int (nomark _)) (pv 5) (pv 2)) pa_nil))) pa_nil)) (by rfl)) (pss_cons (ps_set (i := 10) sc_p_law.nd rfl (Or.inr rfl) (pe_lst (pa_cons (pe_tup (pa_cons (pe_ix ix_list (pv 3) pe_int (fun _ _ => rfl)) (pa_cons (pe_tup (pa_cons pe_str (pa_cons (pv 8) (pa_cons (pv 9) pa_nil)))) pa_nil))) pa_nil))) (pss_cons (ps_set (i := 11) sc_p_law.nd rfl (Or.inr rfl) (pe_lst (pa_cons (pe_tup (pa_cons (pe_tup (pa_cons pe_str (pa_cons (pv 4) pa_nil))) (pa_cons pe_str (pa_cons (pe_tup (pa_cons (pe_ix ix_list (pv 3) pe_int (fun _ _ => rfl)) pa_nil)) pa_nil)))) (pa_cons (pe_tup (pa_cons (pe_tup (pa_cons pe_str (pa_cons (pv 5) pa_nil))) (pa_cons pe_str (pa_cons (pe_tup (pa_cons (pe_ix ix_list (pv 3) pe_int (fun _ _ => rfl)) pa_nil)) pa_nil)))) (pa_cons (pe_tup (pa_cons (pe_tup (pa_cons pe_str (pa_cons (pv 8) (pa_cons (pv 9) pa_nil)))) (pa_cons pe_str (pa_cons (pe_tup (pa_cons (pe_ix ix_list (pv 3) pe_int (fun _ _ => rfl)) pa_nil)) pa_nil)))) pa_nil))))) (pss_one (ps_for PassesOwn.never rfl (pi_list (pv 2)) (pg_name (i := 12) sc_p_law.nd rfl (Or.inl rfl)) (pss_one (ps_for PassesOwn.never rfl (pi_list (pv 2)) (pg_name (i := 13) sc_p_law.nd rfl (Or.inl rfl)) (pss_cons (ps_set (i := 14) sc_p_law.nd rfl (Or.inl rfl) (pe_tup (pa_cons pe_str (pa_cons (pv 12) (pa_cons (pv 13) pa_nil))))) (pss_cons (ps_set (i := 15) sc_p_law.nd rfl (Or.inl rfl) (pe_lst (pa_cons (pe_call G_l_across_due (hr.mono (by decide)) (by rfl) m_l_across_due k_l_across_due b_l_across_due .nil pass0 (pa_cons (pv 4) (pa_cons (pv 5) (pa_cons (pv 8) (pa_cons (pv 9) (pa_cons (pv 12) (pa_cons (pv 13) pa_nil))))))) (pa_cons (pe_call G_l_across_due (hr.mono (by decide)) (by rfl) m_l_across_due k_l_across_due b_l_across_due .nil pass0 (pa_cons (pv 5) (pa_cons (pv 4) (pa_cons (pv 8) (pa_cons (pv 9) (pa_cons (pv 12) (pa_cons (pv 13) pa_nil))))))) (pa_cons (pe_call G_l_apart_due (hr.mono (by decide)) (by rfl) m_l_apart_due k_l_apart_due b_l_apart_due .nil pass0 (pa_cons (pv 4) (pa_cons (pv 5) (pa_cons (pv 8) (pa_cons (pv 9) (pa_cons (pv 12) (pa_cons (pv 13) pa_nil))))))) (pa_cons (pe_call G_l_apart_due (hr.mono (by decide)) (by rfl) m_l_apart_due k_l_apart_due b_l_apart_due .nil pass0 (pa_cons (pv 5) (pa_cons (pv 4) (pa_cons (pv 8) (pa_cons (pv 9) (pa_cons (pv 12) (pa_cons (pv 13) pa_nil))))))) pa_nil)))))) (pss_cons (ps_set (i := 16) sc_p_law.nd rfl (Or.inl rfl) (pe_lst (pa_cons (pe_tup (pa_cons (pv 14) (pa_cons pe_str (pa_cons (pe_tup (pa_cons pe_int (pa_cons pe_int (pa_cons pe_int pa_nil)))) pa_nil)))) (pa_cons (pe_tup (pa_cons (pv 14) (pa_cons pe_str (pa_cons (pe_tup (pa_cons pe_int (pa_cons pe_int (pa_cons pe_int pa_nil)))) pa_nil)))) (pa_cons (pe_tup (pa_cons (pv 14) (pa_cons pe_str (pa_cons (pe_tup (pa_cons pe_int (pa_cons pe_int (pa_cons pe_int pa_nil)))) pa_nil)))) (pa_cons (pe_tup (pa_cons (pv 14) (pa_cons pe_str (pa_cons (pe_tup (pa_cons pe_int (pa_cons pe_int (pa_cons pe_int pa_nil)))) pa_nil)))) pa_nil)))))) (pss_cons (ps_setLc (i := 17) (own := [("_law_entry", 18)]) (g := gName 18) (by rfl) sc_p_law.nd rfl rfl (sw_true rfl rfl rfl (by decide +kernel)) (pi_list (pv 16)) (blkOk_by (own := [("_law_entry", 18)]) (N := ["_law_script", "_law_state", "_law_pool", "_law_labels", "_law_p", "_law_q", "_law_made", "_law_turn", "_law_u", "_law_v", "_law_claims", "_law_rows", "_law_x", "_law_y", "_law_said", "_law_due", "_law_some", "_law_told", "_law_entry", "_law_good", "_law_spot"]) (sc := defScope s_p_law) (by decide +kernel)) (fun _ _ _ _ _ => pg_name (i := 18) sc_p_law.nd rfl (Or.inl rfl)) (fun _ _ _ _ _ => pts_nil) (fun _ _ _ _ _ => (pe_call G_p_first_fault (hr.mono (by decide)) (by rfl) m_p_first_fault k_p_first_fault b_p_first_fault .nil passF (pa_cons (pv 6) (pa_cons (pv 10) (pa_cons (pe_op op_cat (pv 11) (pe_lst (pa_cons (pv 18) pa_nil))) pa_nil)))))) (pss_cons (ps_if (pt_not (pt_val (pe_call G_l_same (hr.mono (by decide)) (by rfl) m_l_same k_l_same b_l_same .nil pass0 (pa_cons (pv 17) (pa_cons (pe_lc (own := [("_law_good", 19)]) (g := gName 19) (by rfl) sc_p_law.nd (pi_list (pv 15)) (blkOk_by (own := [("_law_good", 19)]) (N := ["_law_script", "_law_state", "_law_pool", "_law_labels", "_law_p", "_law_q", "_law_made", "_law_turn", "_law_u", "_law_v", "_law_claims", "_law_rows", "_law_x", "_law_y", "_law_said", "_law_due", "_law_some", "_law_told", "_law_entry", "_law_good", "_law_spot"]) (sc := defScope s_p_law) (by decide +kernel)) (fun _ _ _ _ _ => pg_name (i := 19) sc_p_law.nd rfl (Or.inl rfl)) (fun _ _ _ _ _ => pts_nil) (fun _ _ _ _ _ => (pe_ifExp (pt_val (pv 19)) pe_non pe_int))) pa_nil))))) (pss_one (ps_ret pe_bl)) pss_nil) (pss_cons (ps_set (i := 20) sc_p_law.nd rfl (Or.inl rfl) (pe_call G_l_draw (hr.mono (by decide)) (by rfl) m_l_draw k_l_draw b_l_draw .nil pass0 (pa_cons (pv 1) (pa_cons pe_int pa_nil)))) (pss_one (ps_if (pt_not (pt_val (pe_call G_l_same (hr.mono (by decide)) (by rfl) m_l_same k_l_same b_l_same .nil pass0 (pa_cons (pe_call G_p_shows (hr.mono (by decide)) (by rfl) m_p_shows k_p_shows b_p_shows .nil passF (pa_cons (pv 6) (pa_cons (pv 10) (pa_cons (pe_op op_cat (pv 11) (pe_lst (pa_cons (pe_ix ix_list (pv 16) (pv 20) (fun _ _ => rfl)) pa_nil))) (pa_cons (pv 14) pa_nil))))) (pa_cons (pe_ix ix_list (pv 15) (pv 20) (fun _ _ => rfl)) pa_nil))))) (pss_one (ps_ret pe_bl)) pss_nil)))))))))))))))) (pss_one (ps_ret pe_bl))))))), ?_⟩
    refine ⟨_, rfl, a, ns, 120331763, rfl, hS, hlen, by decide, by decide, fun H1 D s1 np nl d => ?_⟩
    refine ⟨_, rfl, _, rfl, by show 5 ≤ sizeLine; decide, fun u nu => ?_⟩
    have g0 := Go.of d (same_new (o := .lst [.int 2, .int 3, .int 9, .int 5, .int 6]) nu)
    refine ⟨D, u, _, rfl, g0.st, .inl (sqh (d.ne_new nu) upd_same), by show 0 < 5; decide, by show 5 ≤ 1000; decide, fun i v H2 hv g1 => ?_⟩
    obtain ⟨n, rfl, n1, n2⟩ : ∃ n : Int, v = .int n ∧ 2 ≤ n ∧ n ≤ 9 := by
      have m := List.mem_of_getElem? hv
      simp only [List.mem_cons, List.not_mem_nil, or_false] at m
      rcases m with e | e | e | e | e <;> exact ⟨_, e, by decide, by decide⟩
    have g2 := g0.trans g1
    refine ⟨D, n, rfl, g2.st, by omega, by omega, fun PL xs H3 nx lx nPL ePL g3 => ?_⟩
    have g4 := g2.trans g3
    refine ⟨_, rfl, D, 3, rfl, g4.st, by decide, by decide, fun LL ls H4 nls lls nLL eLL g5 => ⟨_, _, rfl, ?_⟩⟩
    have g6 := g4.trans g5
    have pPL : PL ≠ D.p := g2.st.ne_new nPL
    have pLL : LL ≠ D.p := g4.st.ne_new nLL
    have ePL4 := g5.old pPL ePL
    obtain ⟨m0, m1, m2, rfl⟩ := len3 (show ls.length = 3 by omega)
    -- two lots
    refine ⟨_, rfl, _, rfl, D, PL, xs, rfl, g6.st, sqh pPL ePL4, by omega, by omega, nx, fun T a1 a2 ps qs H5 gps gqs eT e1 e2 g7 => ?_⟩
    refine ⟨T, _, rfl, .inl (.inl eT), rfl, _, _, rfl, _, _, rfl, rfl, ?_⟩
    have g8 := g6.trans g7
    have ePL5 := g7.old pPL ePL4
    have eLL5 := g7.old pLL eLL
    -- the book
    refine ⟨_, rfl, _, rfl, LL, _, 0, .str m0, rfl, rfl, .inl (.inl eLL5), rfl, _, rfl, by show 2 ≤ sizeLine; decide, fun T1 nT1 => ?_⟩
    have s51 := same_new (o := .tup [.str m0, .ref a1]) nT1
    have eT1 := upd_same (H := H5) (a := T1) (o := .tup [.str m0, .ref a1])
    generalize upd H5 T1 (.tup [.str m0, .ref a1]) = H6 at s51 eT1 ⊢
    refine ⟨_, rfl, LL, _, 1, .str m1, rfl, rfl, .inl (.inl (s51 _ _ eLL5)), rfl, _, rfl, by show 2 ≤ sizeLine; decide, fun T2 nT2 => ?_⟩
    have s52 := same_new (o := .tup [.str m1, .ref a2]) nT2
    have eT2 := upd_same (H := H6) (a := T2) (o := .tup [.str m1, .ref a2])
    have eT1b := s52 _ _ eT1
    generalize upd H6 T2 (.tup [.str m1, .ref a2]) = H7 at s52 eT2 eT1b ⊢
    refine ⟨by show 2 ≤ sizeLine; decide, fun WL nWL => ?_⟩
    have s53 := same_new (o := .lst [.ref T1, .ref T2]) nWL
    have eWL := upd_same (H := H7) (a := WL) (o := .lst [.ref T1, .ref T2])
    have s58 := s51.trans (s52.trans s53)
    have dW : Da K (upd H7 WL (.lst [.ref T1, .ref T2])) (.ref WL) (.list ([(m0, ps), (m1, qs)].map wOf)) :=
      Da.newL eWL (.cons (Da.newT (s53 _ _ eT1b) (.cons (.str _) (.cons (Da.newT (s58 _ _ e1) (DaAll.strs _)) .nil))) (.cons (Da.newT (s53 _ _ eT2) (.cons (.str _) (.cons (Da.newT (s58 _ _ e2) (DaAll.strs _)) .nil))) .nil))
    generalize upd H7 WL (.lst [.ref T1, .ref T2]) = H8 at s58 dW ⊢
    clear eWL s53 eT1b eT2 s52 eT1 s51 nWL nT2 nT1
    refine fun b dx nb ndx ne => ?_
    have sb : Same H8 (upd (upd H8 dx (.own b)) b (.ins CB dx [])) := (same_new ndx).trans (same_new (by rw [upd_ne ne.symm]; exact nb))
    have lx60 : xs.length ≤ 60 := by omega
    have hm : ∀ m ∈ [m0, m1, m2], isNm m = true := fun m hm => nls.2 m hm
    have hne : m0 ≠ m1 := fun z => by
      have := nls.1
      rw [z] at this
      exact absurd this (by simp)
    have lv2 : ∀ (m : Str) (zs : List Str), isNm m = true → GoodL xs zs → Lv 5 (wOf (m, zs)) := fun m zs h g => ⟨by show 2 ≤ 60; decide, fun d hd => by
      rcases List.mem_cons.mp hd with e | hd
      · rw [e]; exact lv_nm h
      · rw [List.mem_singleton.mp hd]; exact lv_lot (gl_nm g nx) (Nat.le_trans g.2.2.2.1 lx60)⟩
    have nex : xs ≠ [] := fun z => by rw [z] at lx; simp at lx; omega
    refine ⟨b, dx, .ref PL, .ref WL, .list (xs.map .str), .list ([(m0, ps), (m1, qs)].map wOf), rfl, Da.newL (sb _ _ (s58 _ _ ePL5)) (DaAll.strs _), fun ds hd e he => ?_, dW.to sb, fun ds hd e he => ?_, upd_same, fun _ ys ds H9 hds pmy soy bk keep => ⟨rfl, ?_⟩, fun c val hc => ?_⟩
    · cases hd
      obtain ⟨x, hx, rfl⟩ := List.mem_map.mp he
      exact lv_nm (nx.2 x hx)
    · cases hd
      rcases List.mem_cons.mp he with e' | he
      · rw [e']; exact lv2 m0 ps (hm _ (by simp)) gps
      · rw [List.mem_singleton.mp he]; exact lv2 m1 qs (hm _ (by simp)) gqs
    · rw [names_of (xs := xs) rfl] at pmy
      cases hds
      have s89 : Same H8 H9 := fun c o e => keep c o (fun z => by rw [z, nb] at e; cases e) (sb c o e)
      have s59 := s58.trans s89
      have gB := g8.trans (Go.of g8.st s59)
      have ePL9 := s59 _ _ ePL5
      have eLL9 := s59 _ _ eLL5
      have e19 := s59 _ _ e1
      have e29 := s59 _ _ e2
      have d9 := gB.st
      have hys : ∀ x, x ∈ ys ↔ x ∈ xs := fun x => pmy.mem_iff
      have ny : ys ≠ [] := fun z => nex (by rw [z] at pmy; exact pmy.symm.eq_nil)
      clear gB s59 s89 keep sb lv2 ne nb ndx dW s58 e1 e2 eT g7 g8 ePL5 eLL5 ePL4 ePL eLL g6 g5 g4 g3 g2 g1 g0 hv
      have q1' := tup_ne d9 e19
      have q2' := tup_ne d9 e29
      -- turns
      refine ⟨2, rfl, by decide, by decide, for_range (lo := 0) (n := 2) (fun i σ H' => ∃ y7 y8 y9 y10 y11 y12 y13 y14 y15 y16 y17 y20 : Option V, σ = [some (.ref a), some (.ref D.p), some (.ref PL), some (.ref LL), some (.ref a1), some (.ref a2), some (.ref b), y7, y8, y9, y10, y11, y12, y13, y14, y15, y16, y17, none, none, y20] ∧ Go D H9 H') ⟨_, _, _, _, _, _, _, _, _, _, _, _, rfl, Go.refl d9⟩ ?_ ?_⟩
      · rintro i9 σ HA hi9 ⟨y7, y8, y9, y10, y11, y12, y13, y14, y15, y16, y17, y20, rfl, gA⟩
        have hq : ∀ (H' : Hp) (c : Bool) (aa : Addr) (zs : List Str), Go D H9 H' → aa ≠ D.p → H9 aa = some (.tup (zs.map V.str)) → (SqL K (hid D.p H') (if c = true then aa else PL) ((if c = true then zs else xs).map V.str) ∨ SqT K (hid D.p H') (if c = true then aa else PL) ((if c = true then zs else xs).map V.str)) := fun H' c aa zs g n e => by
          cases c with
          | true => exact .inr (.inl (.inl (by rw [show (if true = true then aa else PL) = aa from rfl, hid_ne n]; exact g.old n e)))
          | false => exact .inl (sqh pPL (g.old pPL ePL9))
        have hl : ∀ (c : Bool) (zs : List Str), GoodL xs zs → 0 < ((if c = true then zs else xs).map V.str).length ∧ ((if c = true then zs else xs).map V.str).length ≤ 1000 := fun c zs g => by
          rw [List.length_map]
          cases c with
          | true => exact ⟨List.length_pos_iff.mpr g.1, by have := g.2.2.2.1; show zs.length ≤ 1000; omega⟩
          | false => exact ⟨by show 0 < xs.length; omega, by show xs.length ≤ 1000; omega⟩
        have hmem : ∀ (c : Bool) (zs : List Str) (x : Str), GoodL xs zs → x ∈ (if c = true then zs else xs) → x ∈ xs := fun c zs x g hx => by
          cases c with
          | true => exact g.2.2.1 x hx
          | false => exact hx
        refine ⟨_, rfl, _, rfl, rfl, _, rfl, ite_var (A := .ref a1) (B := .ref PL) ?_⟩
        refine ⟨D, _, _, congrArg (fun z => [V.ref D.p, z]) ref_ite, gA.st, hq HA _ a1 ps gA q1' e19, (hl _ ps gps).1, (hl _ ps gps).2, fun k1 v1 HB hv1 gB1 => ?_⟩
        obtain ⟨u, hu, rfl⟩ := getmap hv1
        have hux : u ∈ xs := hmem _ ps u gps (List.mem_of_getElem? hu)
        have gB := gA.trans gB1
        refine ⟨_, rfl, _, rfl, rfl, _, rfl, ite_var (A := .ref a2) (B := .ref PL) ?_⟩
        refine ⟨D, _, _, congrArg (fun z => [V.ref D.p, z]) ref_ite, gB.st, hq HB _ a2 qs gB q2' e29, (hl _ qs gqs).1, (hl _ qs gqs).2, fun k2 v2 HC hv2 gC1 => ⟨_, _, rfl, ?_⟩⟩
        obtain ⟨v, hv, rfl⟩ := getmap hv2
        have hvx : v ∈ xs := hmem _ qs v gqs (List.mem_of_getElem? hv)
        have gC := gB.trans gC1
        clear hu hv hv1 hv2 gC1 gB1 gB gA hq hl hmem
        -- claims
        refine ⟨_, rfl, LL, _, 2, .str m2, rfl, rfl, .inl (.inl (gC.old pLL eLL9)), rfl, _, rfl, _, rfl, by show 3 ≤ sizeLine; decide, fun F1 nF1 => ?_⟩
        have tF1 := same_new (o := .tup [.str "before", .str u, .str v]) nF1
        have eF1 := upd_same (H := HC) (a := F1) (o := .tup [.str "before", .str u, .str v])
        generalize upd HC F1 (.tup [.str "before", .str u, .str v]) = HF1 at tF1 eF1 ⊢
        have uF1 := tF1
        refine ⟨by show 2 ≤ sizeLine; decide, fun F2 nF2 => ?_⟩
        have tF2 := same_new (o := .tup [.str m2, .ref F1]) nF2
        have eF2 := upd_same (H := HF1) (a := F2) (o := .tup [.str m2, .ref F1])
        generalize upd HF1 F2 (.tup [.str m2, .ref F1]) = HF2 at tF2 eF2 ⊢
        have uF2 := uF1.trans tF2
        refine ⟨by show 1 ≤ sizeLine; decide, fun CL nCL => ?_⟩
        have tCL := same_new (o := .lst [.ref F2]) nCL
        have eCL := upd_same (H := HF2) (a := CL) (o := .lst [.ref F2])
        generalize upd HF2 CL (.lst [.ref F2]) = HCL at tCL eCL ⊢
        have uCL := uF2.trans tCL
        refine ⟨_, rfl, by show 2 ≤ sizeLine; decide, fun A1 nA1 => ?_⟩
        have tA1 := same_new (o := .tup [.str "lot", .ref a1]) nA1
        have eA1 := upd_same (H := HCL) (a := A1) (o := .tup [.str "lot", .ref a1])
        generalize upd HCL A1 (.tup [.str "lot", .ref a1]) = HA1 at tA1 eA1 ⊢
        have uA1 := uCL.trans tA1
        refine ⟨_, rfl, LL, _, 0, .str m0, rfl, rfl, .inl (.inl ((uA1) _ _ (gC.old pLL eLL9))), rfl, by show 1 ≤ sizeLine; decide, fun A2 nA2 => ?_⟩
        have tA2 := same_new (o := .tup [.str m0]) nA2
        have eA2 := upd_same (H := HA1) (a := A2) (o := .tup [.str m0])
        generalize upd HA1 A2 (.tup [.str m0]) = HA2 at tA2 eA2 ⊢
        have uA2 := uA1.trans tA2
        refine ⟨by show 3 ≤ sizeLine; decide, fun A3 nA3 => ?_⟩
        have tA3 := same_new (o := .tup [.ref A1, .str "word", .ref A2]) nA3
        have eA3 := upd_same (H := HA2) (a := A3) (o := .tup [.ref A1, .str "word", .ref A2])
        generalize upd HA2 A3 (.tup [.ref A1, .str "word", .ref A2]) = HA3 at tA3 eA3 ⊢
        have uA3 := uA2.trans tA3
        refine ⟨_, rfl, by show 2 ≤ sizeLine; decide, fun B1 nB1 => ?_⟩
        have tB1 := same_new (o := .tup [.str "lot", .ref a2]) nB1
        have eB1 := upd_same (H := HA3) (a := B1) (o := .tup [.str "lot", .ref a2])
        generalize upd HA3 B1 (.tup [.str "lot", .ref a2]) = HB1 at tB1 eB1 ⊢
        have uB1 := uA3.trans tB1
        refine ⟨_, rfl, LL, _, 1, .str m1, rfl, rfl, .inl (.inl ((uB1) _ _ (gC.old pLL eLL9))), rfl, by show 1 ≤ sizeLine; decide, fun B2 nB2 => ?_⟩
        have tB2 := same_new (o := .tup [.str m1]) nB2
        have eB2 := upd_same (H := HB1) (a := B2) (o := .tup [.str m1])
        generalize upd HB1 B2 (.tup [.str m1]) = HB2 at tB2 eB2 ⊢
        have uB2 := uB1.trans tB2
        refine ⟨by show 3 ≤ sizeLine; decide, fun B3 nB3 => ?_⟩
        have tB3 := same_new (o := .tup [.ref B1, .str "word", .ref B2]) nB3
        have eB3 := upd_same (H := HB2) (a := B3) (o := .tup [.ref B1, .str "word", .ref B2])
        generalize upd HB2 B3 (.tup [.ref B1, .str "word", .ref B2]) = HB3 at tB3 eB3 ⊢
        have uB3 := uB2.trans tB3
        refine ⟨_, rfl, _, rfl, by show 3 ≤ sizeLine; decide, fun C1 nC1 => ?_⟩
        have tC1 := same_new (o := .tup [.str "before", .str u, .str v]) nC1
        have eC1 := upd_same (H := HB3) (a := C1) (o := .tup [.str "before", .str u, .str v])
        generalize upd HB3 C1 (.tup [.str "before", .str u, .str v]) = HC1 at tC1 eC1 ⊢
        have uC1 := uB3.trans tC1
        refine ⟨_, rfl, LL, _, 2, .str m2, rfl, rfl, .inl (.inl ((uC1) _ _ (gC.old pLL eLL9))), rfl, by show 1 ≤ sizeLine; decide, fun C2 nC2 => ?_⟩
        have tC2 := same_new (o := .tup [.str m2]) nC2
        have eC2 := upd_same (H := HC1) (a := C2) (o := .tup [.str m2])
        generalize upd HC1 C2 (.tup [.str m2]) = HC2 at tC2 eC2 ⊢
        have uC2 := uC1.trans tC2
        refine ⟨by show 3 ≤ sizeLine; decide, fun C3 nC3 => ?_⟩
        have tC3 := same_new (o := .tup [.ref C1, .str "fact", .ref C2]) nC3
        have eC3 := upd_same (H := HC2) (a := C3) (o := .tup [.ref C1, .str "fact", .ref C2])
        generalize upd HC2 C3 (.tup [.ref C1, .str "fact", .ref C2]) = HC3 at tC3 eC3 ⊢
        have uC3 := uC2.trans tC3
        refine ⟨by show 3 ≤ sizeLine; decide, fun RW nRW => ?_⟩
        have tRW := same_new (o := .lst [.ref A3, .ref B3, .ref C3]) nRW
        have eRW := upd_same (H := HC3) (a := RW) (o := .lst [.ref A3, .ref B3, .ref C3])
        generalize upd HC3 RW (.lst [.ref A3, .ref B3, .ref C3]) = HRW at tRW eRW ⊢
        have uRW := uC3.trans tRW
        have fF1 := ((((((((((((tF2).trans tCL).trans tA1).trans tA2).trans tA3).trans tB1).trans tB2).trans tB3).trans tC1).trans tC2).trans tC3).trans tRW) _ _ eF1
        have fF2 := (((((((((((tCL).trans tA1).trans tA2).trans tA3).trans tB1).trans tB2).trans tB3).trans tC1).trans tC2).trans tC3).trans tRW) _ _ eF2
        have fCL := ((((((((((tA1).trans tA2).trans tA3).trans tB1).trans tB2).trans tB3).trans tC1).trans tC2).trans tC3).trans tRW) _ _ eCL
        have fA1 := (((((((((tA2).trans tA3).trans tB1).trans tB2).trans tB3).trans tC1).trans tC2).trans tC3).trans tRW) _ _ eA1
        have fA2 := ((((((((tA3).trans tB1).trans tB2).trans tB3).trans tC1).trans tC2).trans tC3).trans tRW) _ _ eA2
        have fA3 := (((((((tB1).trans tB2).trans tB3).trans tC1).trans tC2).trans tC3).trans tRW) _ _ eA3
        have fB1 := ((((((tB2).trans tB3).trans tC1).trans tC2).trans tC3).trans tRW) _ _ eB1
        have fB2 := (((((tB3).trans tC1).trans tC2).trans tC3).trans tRW) _ _ eB2
        have fB3 := ((((tC1).trans tC2).trans tC3).trans tRW) _ _ eB3
        have fC1 := (((tC2).trans tC3).trans tRW) _ _ eC1
        have fC2 := ((tC3).trans tRW) _ _ eC2
        have fC3 := (tRW) _ _ eC3
        have gR := gC.trans (Go.of gC.st uRW)
        clear tC3 uC3 eC3 tC2 uC2 eC2 tC1 uC1 eC1 tB3 uB3 eB3 tB2 uB2 eB2 tB1 uB1 eB1 tA3 uA3 eA3 tA2 uA2 eA2 tA1 uA1 eA1 tCL uCL eCL tF2 uF2 eF2 tF1 uF1 eF1 tRW uRW
        have dR := gR.st
        have pl : ∀ H', Go D HRW H' → SqL K H' PL (xs.map V.str) := fun H' g => .inl (.inl ((gR.trans g).old pPL ePL9))
        refine ⟨_, rfl, PL, rfl, ⟨_, pl HRW (Go.refl dR)⟩, for_list (K := K) (a := PL) (xs := xs.map V.str) (fun k σ H' => ∃ y7 y12 y13 y14 y15 y16 y17 y20 : Option V, σ = [some (.ref a), some (.ref D.p), some (.ref PL), some (.ref LL), some (.ref a1), some (.ref a2), some (.ref b), y7, some (.str u), some (.str v), some (.ref CL), some (.ref RW), y12, y13, y14, y15, y16, y17, none, none, y20] ∧ Go D HRW H') ⟨_, _, _, _, _, _, _, _, rfl, Go.refl dR⟩ (fun k σ H' _ z => by obtain ⟨_, _, _, _, _, _, _, _, _, g⟩ := z; exact pl H' g) ?_ ?_⟩
        · rintro k xv σ HX hk ⟨y7, y12, y13, y14, y15, y16, y17, y20, rfl, gX⟩
          obtain ⟨x, hx, rfl⟩ := getmap hk
          have hxx := List.mem_of_getElem? hx
          refine ⟨_, rfl, PL, rfl, ⟨_, pl HX gX⟩, for_list (K := K) (a := PL) (xs := xs.map V.str) (fun k σ H' => ∃ y7 y13 y14 y15 y16 y17 y20 : Option V, σ = [some (.ref a), some (.ref D.p), some (.ref PL), some (.ref LL), some (.ref a1), some (.ref a2), some (.ref b), y7, some (.str u), some (.str v), some (.ref CL), some (.ref RW), some (.str x), y13, y14, y15, y16, y17, none, none, y20] ∧ Go D HRW H') ⟨_, _, _, _, _, _, _, rfl, gX⟩ (fun k σ H' _ z => by obtain ⟨_, _, _, _, _, _, _, _, g⟩ := z; exact pl H' g) ?_ ?_⟩
          · rintro k2 yv σ HY hk2 ⟨y7, y13, y14, y15, y16, y17, y20, rfl, gY⟩
            obtain ⟨y, hy, rfl⟩ := getmap hk2
            have hyx := List.mem_of_getElem? hy
            have gg := gR.trans gY
            have z1 := gg.old q1' e19
            have z2 := gg.old q2' e29
            have okp := gl_ok gps nx lx60
            have okq := gl_ok gqs nx lx60
            have npz := gl_nm gps nx
            have nqz := gl_nm gqs nx
            have lp60 : ps.length ≤ 60 := okp.2.2.2
            have lq60 : qs.length ≤ 60 := okq.2.2.2
            have bkY := bk.go (ms := [(m0, ps), (m1, qs)]) ny d9 gg
            have fo : ∀ (A : Addr) (us : List V), HRW A = some (.tup us) → HY A = some (.tup us) := fun A us e => gY.old (tup_ne dR e) e
            have eCLy := gY.old (lst_ne dR fCL (by show 1 ≠ 5; decide)) fCL
            have eRWy := gY.old (lst_ne dR eRW (by show 3 ≠ 5; decide)) eRW
            have fact := facts_ok (K := K) eCLy (fo _ _ fF2) (fo _ _ fF1) (hm m2 (by simp)) (nx.2 u hux) (nx.2 v hvx) ((hys u).mpr hux) ((hys v).mpr hvx)
            have gA1 := fo _ _ fA1
            have gA2 := fo _ _ fA2
            have gA3 := fo _ _ fA3
            have gB1 := fo _ _ fB1
            have gB2 := fo _ _ fB2
            have gB3 := fo _ _ fB3
            have gC1 := fo _ _ fC1
            have gC2 := fo _ _ fC2
            have gC3 := fo _ _ fC3
            have dY := gY.st
            clear fo
            -- what is said, what is due
            refine ⟨_, rfl, _, rfl, by show 3 ≤ sizeLine; decide, fun SD nSD => ?_⟩
            have sSD := same_new (o := .tup [.str "before", .str x, .str y]) nSD
            have eSD := upd_same (H := HY) (a := SD) (o := .tup [.str "before", .str x, .str y])
            generalize upd HY SD (.tup [.str "before", .str x, .str y]) = H1y at sSD eSD ⊢
            refine ⟨_, rfl, _, rfl, _, rfl, _, rfl, _, rfl, _, rfl, a1, a2, ps, qs, u, v, x, y, rfl, .inl (.inl (sSD _ _ z1)), .inl (.inl (sSD _ _ z2)), lp60, lq60, npz, nqz, fun H2y s2y => ?_⟩
            have s02 := sSD.trans s2y
            refine ⟨_, rfl, _, rfl, _, rfl, _, rfl, _, rfl, _, rfl, a2, a1, qs, ps, u, v, x, y, rfl, .inl (.inl (s02 _ _ z2)), .inl (.inl (s02 _ _ z1)), lq60, lp60, nqz, npz, fun H3y s3y => ?_⟩
            have s03 := s02.trans s3y
            refine ⟨_, rfl, _, rfl, _, rfl, _, rfl, _, rfl, _, rfl, a1, a2, ps, qs, u, v, x, y, rfl, .inl (.inl (s03 _ _ z1)), .inl (.inl (s03 _ _ z2)), lp60, npz, fun H4y s4y => ?_⟩
            have s04 := s03.trans s4y
            refine ⟨_, rfl, _, rfl, _, rfl, _, rfl, _, rfl, _, rfl, a2, a1, qs, ps, u, v, x, y, rfl, .inl (.inl (s04 _ _ z2)), .inl (.inl (s04 _ _ z1)), lq60, nqz, fun H5y s5y => ?_⟩
            have s05 := s04.trans s5y
            refine ⟨by show 4 ≤ sizeLine; decide, fun DU nDU => ?_⟩
            have tDU := same_new (o := .lst [.bl (ovB ps qs && acrossB ps qs u v x y), .bl (ovB qs ps && acrossB qs ps u v x y), .bl ((ps.all fun x => !decide (x ∈ qs)) && ([(u, v), (x, y)].all fun p => decide (p.1 ∈ ps) && decide (p.2 ∈ qs))), .bl ((qs.all fun x => !decide (x ∈ ps)) && ([(u, v), (x, y)].all fun p => decide (p.1 ∈ qs) && decide (p.2 ∈ ps)))]) nDU
            have rd := @right_due ys ps qs [(m0, ps), (m1, qs)] [(m2, ["before", u, v])] u v x y (.bef x y)
            generalize (ovB ps qs && acrossB ps qs u v x y) = b0 at tDU rd ⊢
            generalize (ovB qs ps && acrossB qs ps u v x y) = b1 at tDU rd ⊢
            generalize ((ps.all fun x => !decide (x ∈ qs)) && ([(u, v), (x, y)].all fun p => decide (p.1 ∈ ps) && decide (p.2 ∈ qs))) = b2 at tDU rd ⊢
            generalize ((qs.all fun x => !decide (x ∈ ps)) && ([(u, v), (x, y)].all fun p => decide (p.1 ∈ qs) && decide (p.2 ∈ ps))) = b3 at tDU rd ⊢
            have eDU := upd_same (H := H5y) (a := DU) (o := .lst [.bl b0, .bl b1, .bl b2, .bl b3])
            generalize upd H5y DU (.lst [.bl b0, .bl b1, .bl b2, .bl b3]) = HDU at tDU eDU ⊢
            refine ⟨_, rfl, by show 3 ≤ sizeLine; decide, fun E0 nE0 => ?_⟩
            have tE0 := same_new (o := .tup [.int 0, .int 1, .int 2]) nE0
            have eE0 := upd_same (H := HDU) (a := E0) (o := .tup [.int 0, .int 1, .int 2])
            generalize upd HDU E0 (.tup [.int 0, .int 1, .int 2]) = HE0 at tE0 eE0 ⊢
            refine ⟨by show 3 ≤ sizeLine; decide, fun G0 nG0 => ?_⟩
            have tG0 := same_new (o := .tup [.ref SD, .str "across", .ref E0]) nG0
            have eG0 := upd_same (H := HE0) (a := G0) (o := .tup [.ref SD, .str "across", .ref E0])
            generalize upd HE0 G0 (.tup [.ref SD, .str "across", .ref E0]) = HG0 at tG0 eG0 ⊢
            refine ⟨_, rfl, by show 3 ≤ sizeLine; decide, fun E1 nE1 => ?_⟩
            have tE1 := same_new (o := .tup [.int 1, .int 0, .int 2]) nE1
            have eE1 := upd_same (H := HG0) (a := E1) (o := .tup [.int 1, .int 0, .int 2])
            generalize upd HG0 E1 (.tup [.int 1, .int 0, .int 2]) = HE1 at tE1 eE1 ⊢
            refine ⟨by show 3 ≤ sizeLine; decide, fun G1 nG1 => ?_⟩
            have tG1 := same_new (o := .tup [.ref SD, .str "across", .ref E1]) nG1
            have eG1 := upd_same (H := HE1) (a := G1) (o := .tup [.ref SD, .str "across", .ref E1])
            generalize upd HE1 G1 (.tup [.ref SD, .str "across", .ref E1]) = HG1 at tG1 eG1 ⊢
            refine ⟨_, rfl, by show 3 ≤ sizeLine; decide, fun E2 nE2 => ?_⟩
            have tE2 := same_new (o := .tup [.int 0, .int 1, .int 2]) nE2
            have eE2 := upd_same (H := HG1) (a := E2) (o := .tup [.int 0, .int 1, .int 2])
            generalize upd HG1 E2 (.tup [.int 0, .int 1, .int 2]) = HE2 at tE2 eE2 ⊢
            refine ⟨by show 3 ≤ sizeLine; decide, fun G2 nG2 => ?_⟩
            have tG2 := same_new (o := .tup [.ref SD, .str "apart", .ref E2]) nG2
            have eG2 := upd_same (H := HE2) (a := G2) (o := .tup [.ref SD, .str "apart", .ref E2])
            generalize upd HE2 G2 (.tup [.ref SD, .str "apart", .ref E2]) = HG2 at tG2 eG2 ⊢
            refine ⟨_, rfl, by show 3 ≤ sizeLine; decide, fun E3 nE3 => ?_⟩
            have tE3 := same_new (o := .tup [.int 1, .int 0, .int 2]) nE3
            have eE3 := upd_same (H := HG2) (a := E3) (o := .tup [.int 1, .int 0, .int 2])
            generalize upd HG2 E3 (.tup [.int 1, .int 0, .int 2]) = HE3 at tE3 eE3 ⊢
            refine ⟨by show 3 ≤ sizeLine; decide, fun G3 nG3 => ?_⟩
            have tG3 := same_new (o := .tup [.ref SD, .str "apart", .ref E3]) nG3
            have eG3 := upd_same (H := HE3) (a := G3) (o := .tup [.ref SD, .str "apart", .ref E3])
            generalize upd HE3 G3 (.tup [.ref SD, .str "apart", .ref E3]) = HG3 at tG3 eG3 ⊢
            refine ⟨by show 4 ≤ sizeLine; decide, fun SM nSM => ?_⟩
            have tSM := same_new (o := .lst [.ref G0, .ref G1, .ref G2, .ref G3]) nSM
            have eSM := upd_same (H := HG3) (a := SM) (o := .lst [.ref G0, .ref G1, .ref G2, .ref G3])
            generalize upd HG3 SM (.lst [.ref G0, .ref G1, .ref G2, .ref G3]) = HSM at tSM eSM ⊢
            have fDU := (((((((((tE0).trans tG0).trans tE1).trans tG1).trans tE2).trans tG2).trans tE3).trans tG3).trans tSM) _ _ eDU
            have fE0 := ((((((((tG0).trans tE1).trans tG1).trans tE2).trans tG2).trans tE3).trans tG3).trans tSM) _ _ eE0
            have fG0 := (((((((tE1).trans tG1).trans tE2).trans tG2).trans tE3).trans tG3).trans tSM) _ _ eG0
            have fE1 := ((((((tG1).trans tE2).trans tG2).trans tE3).trans tG3).trans tSM) _ _ eE1
            have fG1 := (((((tE2).trans tG2).trans tE3).trans tG3).trans tSM) _ _ eG1
            have fE2 := ((((tG2).trans tE3).trans tG3).trans tSM) _ _ eE2
            have fG2 := (((tE3).trans tG3).trans tSM) _ _ eG2
            have fE3 := ((tG3).trans tSM) _ _ eE3
            have fG3 := (tSM) _ _ eG3
            have sS : Same HY HSM := ((((((((((s05).trans tDU).trans tE0).trans tG0).trans tE1).trans tG1).trans tE2).trans tG2).trans tE3).trans tG3).trans tSM
            have fSD := ((((((((((((s2y.trans (s3y.trans (s4y.trans s5y)))).trans tDU).trans tE0).trans tG0).trans tE1).trans tG1).trans tE2).trans tG2).trans tE3).trans tG3).trans tSM) _ _ eSD
            clear tDU eDU tE0 eE0 tG0 eG0 tE1 eE1 tG1 eG1 tE2 eE2 tG2 eG2 tE3 eE3 tG3 eG3 tSM s05 s04 s03 s02 s5y s4y s3y s2y sSD eSD
            have itm : ∀ (j : Nat) (xv : V), [V.ref G0, .ref G1, .ref G2, .ref G3][j]? = some xv → ∃ (Gj Ej : Addr) (r : Str) (el : List PyData) (ev : List V) (d : Bool), xv = .ref Gj ∧ HSM Gj = some (.tup [.ref SD, .str r, .ref Ej]) ∧ HSM Ej = some (.tup ev) ∧ (∀ H' : Hp, DaAll K H' ev el) ∧ (r = "apart" ∨ r = "across") ∧ el ∈ elds ∧ rightR ys [(m0, ps), (m1, qs)] [(m2, ["before", u, v])] [.lot ps, .lot qs, .bef u v, .bef x y] (.bef x y) r el = d ∧ [b0, b1, b2, b3][j]? = some d := fun j xv hj => by
              match j, hj with
              | 0, hj => cases hj; exact ⟨G0, E0, _, _, _, _, rfl, fG0, fE0, fun _ => .cons (.int _) (.cons (.int _) (.cons (.int _) .nil)), .inr rfl, by simp [elds], rd.1, rfl⟩
              | 1, hj => cases hj; exact ⟨G1, E1, _, _, _, _, rfl, fG1, fE1, fun _ => .cons (.int _) (.cons (.int _) (.cons (.int _) .nil)), .inr rfl, by simp [elds], rd.2.1, rfl⟩
              | 2, hj => cases hj; exact ⟨G2, E2, _, _, _, _, rfl, fG2, fE2, fun _ => .cons (.int _) (.cons (.int _) (.cons (.int _) .nil)), .inl rfl, by simp [elds], rd.2.2.1, rfl⟩
              | 3, hj => cases hj; exact ⟨G3, E3, _, _, _, _, rfl, fG3, fE3, fun _ => .cons (.int _) (.cons (.int _) (.cons (.int _) .nil)), .inl rfl, by simp [elds], rd.2.2.2, rfl⟩
            -- what is told
            refine ⟨_, rfl, SM, rfl, ⟨_, .inl (.inl eSM)⟩, fun TL nTL => ?_⟩
            have okms : ∀ p ∈ [(m0, ps), (m1, qs)], okW p := fun p hp => by
              rcases List.mem_cons.mp hp with e | hp
              · rw [e]; exact ⟨hm m0 (by simp), okp⟩
              · rw [List.mem_singleton.mp hp]; exact ⟨hm m1 (by simp), okq⟩
            have ens : ∀ (H7 : Hp) (r : Str) (el : List PyData) (ev : List V) (Gj Ej : Addr), Same HSM H7 → HSM Gj = some (.tup [.ref SD, .str r, .ref Ej]) → HSM Ej = some (.tup ev) → (∀ H' : Hp, DaAll K H' ev el) → DaAll K H7 [.ref A3, .ref B3, .ref C3, .ref Gj] ((four ps qs m0 m1 m2 u v x y r el).map enOf) := fun H7 r el ev Gj Ej s7 hG hE hev => by
              have sZ := sS.trans s7
              exact .cons (Da.newT (sZ _ _ gA3) (.cons (Da.newT (sZ _ _ gA1) (.cons (.str _) (.cons (Da.newT (sZ _ _ z1) (DaAll.strs _)) .nil))) (.cons (.str _) (.cons (Da.newT (sZ _ _ gA2) (.cons (.str _) .nil)) .nil))))
                (.cons (Da.newT (sZ _ _ gB3) (.cons (Da.newT (sZ _ _ gB1) (.cons (.str _) (.cons (Da.newT (sZ _ _ z2) (DaAll.strs _)) .nil))) (.cons (.str _) (.cons (Da.newT (sZ _ _ gB2) (.cons (.str _) .nil)) .nil))))
                (.cons (Da.newT (sZ _ _ gC3) (.cons (Da.newT (sZ _ _ gC1) (.cons (.str _) (.cons (.str _) (.cons (.str _) .nil)))) (.cons (.str _) (.cons (Da.newT (sZ _ _ gC2) (.cons (.str _) .nil)) .nil))))
                (.cons (Da.newT (s7 _ _ hG) (.cons (Da.newT (s7 _ _ fSD) (.cons (.str _) (.cons (.str _) (.cons (.str _) .nil)))) (.cons (.str _) (.cons (Da.newT (s7 _ _ hE) (hev _)) .nil)))) .nil)))
            have fok : ∀ (r : Str) (el : List PyData), (r = "apart" ∨ r = "across") → el ∈ elds → ∀ (i : Nat) e, (four ps qs m0 m1 m2 u v x y r el)[i]? = some e → enOk i e := fun r el hr hel => four_ok okp okq (hm m0 (by simp)) (hm m1 (by simp)) (hm m2 (by simp)) (nx.2 u hux) (nx.2 v hvx) (nx.2 x hxx) (nx.2 y hyx) hr hel
            refine lc_list (K := K) (a := SM) (xs := [V.ref G0, .ref G1, .ref G2, .ref G3]) (fun j H' => Same HSM H' ∧ H' TL = some (.lst (([b0, b1, b2, b3].map fun d => if d = true then V.non else .int 3).take j))) ⟨same_new nTL, upd_same⟩ (fun j H' _ z => .inl (.inl (z.1 _ _ eSM))) ?_ ?_
            · rintro j xv H' hj ⟨s6, e6⟩
              obtain ⟨Gj, Ej, r, el, ev, d, rfl, hG, hE, hev, hr, hel, hrd, hd⟩ := itm j xv hj
              have sY := sS.trans s6
              refine ⟨rfl, _, rfl, _, rfl, _, rfl, _, rfl, by show 1 ≤ sizeLine; decide, fun O1 nO1 => ?_⟩
              have tO := same_new (o := .lst [.ref Gj]) nO1
              refine ⟨RW, O1, _, _, rfl, rfl, tO _ _ (sY _ _ eRWy), upd_same, by show 3 + 1 ≤ sizeLine; decide, fun C nC => ?_⟩
              have t7 := tO.trans (same_new (o := .lst ([V.ref A3, .ref B3, .ref C3] ++ [.ref Gj])) nC)
              have eC := upd_same (H := upd H' O1 (.lst [.ref Gj])) (a := C) (o := .lst ([V.ref A3, .ref B3, .ref C3] ++ [.ref Gj]))
              generalize upd (upd H' O1 (.lst [.ref Gj])) C (.lst ([V.ref A3, .ref B3, .ref C3] ++ [.ref Gj])) = H7 at t7 eC ⊢
              have sZ := sY.trans t7
              refine ⟨b, CL, C, ys, _, _, _, four ps qs m0 m1 m2 u v x y r el, rfl, bkY.to sZ, by show 2 ≤ 60; decide, okms, fact.to sZ, .inl (.inl eC), .base (.lst eC), ens H7 r el ev Gj Ej (s6.trans t7) hG hE hev, fok r el hr hel, by show 4 ≤ 60; decide, fun H8 s8 => ?_⟩
              rw [ff_four hne ((hys u).mpr hux) ((hys v).mpr hvx), hrd]
              have e8 := s8 _ _ (t7 _ _ e6)
              refine ⟨_, e8, slineL (by rw [List.length_take, List.length_map]; exact Nat.lt_of_le_of_lt (Nat.min_le_right _ _) (by show 4 < 100000; decide)), same_mut (s6.trans (t7.trans s8)) nTL, ?_⟩
              rw [upd_same, List.take_add_one, List.getElem?_map, hd]
              cases d <;> rfl
            rintro HT ⟨sT, eT⟩
            have eT : HT TL = some (.lst ([b0, b1, b2, b3].map fun d => if d = true then V.non else .int 3)) := eT
            have eDUt := sT _ _ fDU
            refine ⟨_, rfl, _, rfl, DU, rfl, ⟨_, .inl (.inl eDUt)⟩, fun GL nGL => ?_⟩
            refine lc_list (K := K) (a := DU) (xs := [b0, b1, b2, b3].map V.bl) (fun j H' => Same HT H' ∧ H' GL = some (.lst (([b0, b1, b2, b3].map fun d => if d = true then V.non else .int 3).take j))) ⟨same_new nGL, upd_same⟩ (fun j H' _ z => .inl (.inl (z.1 _ _ eDUt))) ?_ ?_
            · rintro j xv H' hj ⟨s6, e6⟩
              obtain ⟨d, hd, rfl⟩ := getmap hj
              refine ⟨rfl, _, rfl, _, rfl, ?_⟩
              have fin : ∀ V0 : V, V0 = (if d = true then V.non else .int 3) → ∃ acc, H' GL = some (.lst acc) ∧ acc.length < sizeLine ∧ Same HT (upd H' GL (.lst (acc ++ [V0]))) ∧ (upd H' GL (.lst (acc ++ [V0]))) GL = some (.lst (([b0, b1, b2, b3].map fun d => if d = true then V.non else .int 3).take (j + 1))) := fun V0 e0 => by
                refine ⟨_, e6, slineL (by rw [List.length_take, List.length_map]; exact Nat.lt_of_le_of_lt (Nat.min_le_right _ _) (by show 4 < 100000; decide)), same_mut s6 nGL, ?_⟩
                rw [upd_same, List.take_add_one, List.getElem?_map, hd, e0]
                rfl
              cases d with
              | true => exact iteT (fin _ rfl)
              | false => exact iteF (fin _ rfl)
            rintro HG ⟨sG, eG⟩
            have eG : HG GL = some (.lst ([b0, b1, b2, b3].map fun d => if d = true then V.non else .int 3)) := eG
            refine ⟨.ref TL, .ref GL, _, rfl, Da.newL (sG _ _ eT) (da_told _), Da.newL eG (da_told _), lv_told b0 b1 b2 b3, fun HE sE => ⟨_, rfl, iteF ?_⟩⟩
            -- one of them, drawn
            have dSM := (Go.of dY sS).st
            have sTE := sT.trans (sG.trans sE)
            refine ⟨_, rfl, D, 4, rfl, (Go.of dSM sTE).st, by decide, by decide, fun sp HD r0 r1 gD1 => ?_⟩
            have gD := (Go.of dSM sTE).trans gD1
            have fD : ∀ (A : Addr) (us : List V), HSM A = some (.tup us) → HD A = some (.tup us) := fun A us e => gD.old (tup_ne dSM e) e
            have lSM := gD.old (lst_ne dSM eSM (by show 4 ≠ 5; decide)) eSM
            have lDU := gD.old (lst_ne dSM fDU (by show 4 ≠ 5; decide)) fDU
            have lRW := gD.old (lst_ne dSM (sS _ _ eRWy) (by show 3 ≠ 5; decide)) (sS _ _ eRWy)
            have lCL := gD.old (lst_ne dSM (sS _ _ eCLy) (by show 1 ≠ 5; decide)) (sS _ _ eCLy)
            have gYD : Go D HY HD := (Go.of dY sS).trans gD
            have bkD := bk.go (ms := [(m0, ps), (m1, qs)]) ny d9 (gg.trans gYD)
            obtain ⟨j, rfl⟩ : ∃ j : Nat, sp = (j : Int) := ⟨sp.toNat, by omega⟩
            obtain ⟨xv, hj⟩ : ∃ xv, [V.ref G0, .ref G1, .ref G2, .ref G3][j]? = some xv := ⟨_, List.getElem?_eq_getElem (by show j < 4; omega)⟩
            obtain ⟨Gj, Ej, r, el, ev, dd, rfl, hG, hE, hev, hr, hel, hrd, hd⟩ := itm j xv hj
            refine ⟨_, rfl, _, rfl, _, rfl, _, rfl, _, rfl, ?_⟩
            refine ⟨SM, _, (j : Int), .ref Gj, rfl, rfl, .inl (.inl lSM), atI_nat hj, by show 1 ≤ sizeLine; decide, fun O1 nO1 => ?_⟩
            have tO := same_new (o := .lst [.ref Gj]) nO1
            refine ⟨RW, O1, _, _, rfl, rfl, tO _ _ lRW, upd_same, by show 3 + 1 ≤ sizeLine; decide, fun C nC => ?_⟩
            have t7 := tO.trans (same_new (o := .lst ([V.ref A3, .ref B3, .ref C3] ++ [.ref Gj])) nC)
            have eC := upd_same (H := upd HD O1 (.lst [.ref Gj])) (a := C) (o := .lst ([V.ref A3, .ref B3, .ref C3] ++ [.ref Gj]))
            generalize upd (upd HD O1 (.lst [.ref Gj])) C (.lst ([V.ref A3, .ref B3, .ref C3] ++ [.ref Gj])) = HF at t7 eC ⊢
            have fF : ∀ (A : Addr) (us : List V), HSM A = some (.tup us) → HF A = some (.tup us) := fun A us e => t7 _ _ (fD A us e)
            have factF := facts_ok (K := K) (t7 _ _ lCL) (fF _ _ (sS _ _ (gY.old (tup_ne dR fF2) fF2))) (fF _ _ (sS _ _ (gY.old (tup_ne dR fF1) fF1))) (hm m2 (by simp)) (nx.2 u hux) (nx.2 v hvx) ((hys u).mpr hux) ((hys v).mpr hvx)
            have dSaid : Da K HF (.ref SD) (stOf (.bef x y)) := Da.newT (fF _ _ fSD) (.cons (.str _) (.cons (.str _) (.cons (.str _) .nil)))
            have dEn : DaAll K HF [.ref A3, .ref B3, .ref C3, .ref Gj] ((four ps qs m0 m1 m2 u v x y r el).map enOf) :=
              .cons (Da.newT (fF _ _ (sS _ _ gA3)) (.cons (Da.newT (fF _ _ (sS _ _ gA1)) (.cons (.str _) (.cons (Da.newT (fF _ _ (sS _ _ z1)) (DaAll.strs _)) .nil))) (.cons (.str _) (.cons (Da.newT (fF _ _ (sS _ _ gA2)) (.cons (.str _) .nil)) .nil))))
                (.cons (Da.newT (fF _ _ (sS _ _ gB3)) (.cons (Da.newT (fF _ _ (sS _ _ gB1)) (.cons (.str _) (.cons (Da.newT (fF _ _ (sS _ _ z2)) (DaAll.strs _)) .nil))) (.cons (.str _) (.cons (Da.newT (fF _ _ (sS _ _ gB2)) (.cons (.str _) .nil)) .nil))))
                (.cons (Da.newT (fF _ _ (sS _ _ gC3)) (.cons (Da.newT (fF _ _ (sS _ _ gC1)) (.cons (.str _) (.cons (.str _) (.cons (.str _) .nil)))) (.cons (.str _) (.cons (Da.newT (fF _ _ (sS _ _ gC2)) (.cons (.str _) .nil)) .nil))))
                (.cons (Da.newT (fF _ _ hG) (.cons dSaid (.cons (.str _) (.cons (Da.newT (fF _ _ hE) (hev _)) .nil)))) .nil)))
            refine ⟨_, rfl, b, CL, C, .ref SD, ys, _, _, _, four ps qs m0 m1 m2 u v x y r el, (.bef x y, r, el), .bef x y, rfl, bkD.to t7, by show 2 ≤ 60; decide, okms, factF, .inl (.inl eC), .base (.lst eC), dEn, fok r el hr hel, by show 4 ≤ 60; decide, List.cons_ne_nil _ _, rfl, dSaid, ⟨nx.2 x hxx, nx.2 y hyx⟩, fun HK sK => ?_⟩
            rw [ff_four hne ((hys u).mpr hux) ((hys v).mpr hvx), hrd]
            have ebef : PyData.eqv (stOf (.bef x y)) (stOf (.bef x y)) = true := eqv_bef x y
            have eres : ((if dd = true then (none : Option Nat) else some 3).isNone && PyData.eqv (stOf (.bef x y)) (stOf (.bef x y))) = dd := by
              rw [ebef]
              cases dd <;> rfl
            rw [eres]
            have lDUk := sK _ _ (t7 _ _ lDU)
            refine ⟨_, rfl, _, rfl, DU, _, (j : Int), .bl dd, rfl, rfl, .inl (.inl lDUk), atI_nat (by rw [show [V.bl b0, .bl b1, .bl b2, .bl b3] = [b0, b1, b2, b3].map V.bl from rfl, List.getElem?_map, hd]; rfl), ?_⟩
            refine ⟨.bl dd, .bl dd, .bool dd, rfl, .bl _, .bl _, trivial, fun HZ sZ => ⟨_, rfl, iteF ?_⟩⟩
            exact ⟨_, _, _, _, _, _, _, rfl, (gY.trans gYD).trans (Go.of gYD.st (t7.trans (sK.trans sZ)))⟩
          · rintro σ HY ⟨y7, y13, y14, y15, y16, y17, y20, rfl, gY⟩
            exact ⟨_, _, _, _, _, _, _, _, rfl, gY⟩
        · rintro σ HX ⟨y7, y12, y13, y14, y15, y16, y17, y20, rfl, gX⟩
          exact ⟨_, _, _, _, _, _, _, _, _, _, _, _, rfl, gR.trans gX⟩
      · rintro σ HA ⟨y7, y8, y9, y10, y11, y12, y13, y14, y15, y16, y17, y20, rfl, gA⟩
        exact q HA
    · rw [bk_two nx nex (by omega) (hm _ (by simp)) (hm _ (by simp)) hne gps gqs] at hc
      cases hc
end
end Th
namespace Th
open PySem PySem.Spec PyProof.Rows L2
theorem at_mk {K : PySem.W.Frag} {h : Heap} {mg : Str → Option Value} {x : Str} {st : Stmt} {ps : List Str} {f : Addr} {oc : Value} {od an : Option Addr} {osl : Array (Option Value)} {kV doc pm cdv ct : Value} (X : K.In h) (G : h.Ns mainGlobals mg)
    (a : PySem.W.nsIn K mainGlobals x = some (some (.ref f))) (l : K.lookup f = some ⟨oc, od, .func (PySem.W.fnOf x x (defArgs st) (defBody st) (defScope st) .none kV doc pm an cdv ct), osl⟩) (c : PySem.W.codeIn K cdv x = true) (k : PySem.W.keepIn K (.ref f) = true)
    (hb : ∀ (kV doc pm : Value) (an : Option Addr) (cdv ct : Value) (us : List Value), us.length = ps.length → bindArgs (PySem.W.fnOf x x (defArgs st) (defBody st) (defScope st) .none kV doc pm an cdv ct) ⟨us, []⟩ = pure (ps.zip us)) : At K mg x st ps :=
  ⟨f, _, fun_mk (st := st) l c k, PySem.W.mg_of X G a, (fun_mk (st := st) l c k).binds (ps := ps) hb⟩
theorem has_fn {P : Program} {w : World} {K : PySem.W.Frag} {mg : Str → Option Value} {base : Heap} {x : Str} {st : Stmt} {k : Nat} {ps : List Str} {sp : Sp} {f : Addr} {oc : Value} {od : Option Addr} {fd : FuncData} {osl : Array (Option Value)}
    (h : Has P w K mg base x st k ps sp) (m : mg x = some (.ref f)) (l : K.lookup f = some ⟨oc, od, .func fd, osl⟩) : FnOk P w K mg base CX0 k f fd ps sp := by
  obtain ⟨f', fd', G, m', _, _, F⟩ := h
  rw [m] at m'
  cases m'
  obtain ⟨oc', od', kV, doc, pm, an, cdv, ct, osl', rfl, lk, _⟩ := F.ex
  rw [l] at lk
  cases lk
  exact G
theorem manyE_mk (t0 t1 t2 t3 t4 t5 t6 t7 t8 t9 t10 t11 : Tok) : ManyEOk [("single", .int 0 t0), ("all", .int 0 t1), ("word", .int 1 t2), ("union", .int 2 t3), ("common", .int 2 t4), ("rest", .int 2 t5), ("fact", .int 1 t6), ("apart", .int 3 t7), ("across", .int 3 t8), ("chain", .int 2 t9), ("bar", .int 3 t10), ("self", .int 1 t11)] := fun r k h => by
  unfold manyE at h
  by_cases h0 : r = "single"
  · rw [if_pos h0] at h
    cases h
    subst h0
    exact ⟨t0, by rw [lookE, if_pos rfl]; rfl⟩
  rw [if_neg h0] at h
  by_cases h1 : r = "all"
  · rw [if_pos h1] at h
    cases h
    subst h1
    exact ⟨t1, by rw [lookE, if_neg (by decide +kernel), lookE, if_pos rfl]; rfl⟩
  rw [if_neg h1] at h
  by_cases h2 : r = "word"
  · rw [if_pos h2] at h
    cases h
    subst h2
    exact ⟨t2, by rw [lookE, if_neg (by decide +kernel), lookE, if_neg (by decide +kernel), lookE, if_pos rfl]; rfl⟩
  rw [if_neg h2] at h
  by_cases h3 : r = "union"
  · rw [if_pos h3] at h
    cases h
    subst h3
    exact ⟨t3, by rw [lookE, if_neg (by decide +kernel), lookE, if_neg (by decide +kernel), lookE, if_neg (by decide +kernel), lookE, if_pos rfl]; rfl⟩
  rw [if_neg h3] at h
  by_cases h4 : r = "common"
  · rw [if_pos h4] at h
    cases h
    subst h4
    exact ⟨t4, by rw [lookE, if_neg (by decide +kernel), lookE, if_neg (by decide +kernel), lookE, if_neg (by decide +kernel), lookE, if_neg (by decide +kernel), lookE, if_pos rfl]; rfl⟩
  rw [if_neg h4] at h
  by_cases h5 : r = "rest"
  · rw [if_pos h5] at h
    cases h
    subst h5
    exact ⟨t5, by rw [lookE, if_neg (by decide +kernel), lookE, if_neg (by decide +kernel), lookE, if_neg (by decide +kernel), lookE, if_neg (by decide +kernel), lookE, if_neg (by decide +kernel), lookE, if_pos rfl]; rfl⟩
  rw [if_neg h5] at h
  by_cases h6 : r = "fact"
  · rw [if_pos h6] at h
    cases h
    subst h6
    exact ⟨t6, by rw [lookE, if_neg (by decide +kernel), lookE, if_neg (by decide +kernel), lookE, if_neg (by decide +kernel), lookE, if_neg (by decide +kernel), lookE, if_neg (by decide +kernel), lookE, if_neg (by decide +kernel), lookE, if_pos rfl]; rfl⟩
  rw [if_neg h6] at h
  by_cases h7 : r = "apart"
  · rw [if_pos h7] at h
    cases h
    subst h7
    exact ⟨t7, by rw [lookE, if_neg (by decide +kernel), lookE, if_neg (by decide +kernel), lookE, if_neg (by decide +kernel), lookE, if_neg (by decide +kernel), lookE, if_neg (by decide +kernel), lookE, if_neg (by decide +kernel), lookE, if_neg (by decide +kernel), lookE, if_pos rfl]; rfl⟩
  rw [if_neg h7] at h
  by_cases h8 : r = "across"
  · rw [if_pos h8] at h
    cases h
    subst h8
    exact ⟨t8, by rw [lookE, if_neg (by decide +kernel), lookE, if_neg (by decide +kernel), lookE, if_neg (by decide +kernel), lookE, if_neg (by decide +kernel), lookE, if_neg (by decide +kernel), lookE, if_neg (by decide +kernel), lookE, if_neg (by decide +kernel), lookE, if_neg (by decide +kernel), lookE, if_pos rfl]; rfl⟩
  rw [if_neg h8] at h
  by_cases h9 : r = "chain"
  · rw [if_pos h9] at h
    cases h
    subst h9
    exact ⟨t9, by rw [lookE, if_neg (by decide +kernel), lookE, if_neg (by decide +kernel), lookE, if_neg (by decide +kernel), lookE, if_neg (by decide +kernel), lookE, if_neg (by decide +kernel), lookE, if_neg (by decide +kernel), lookE, if_neg (by decide +kernel), lookE, if_neg (by decide +kernel), lookE, if_neg (by decide +kernel), lookE, if_pos rfl]; rfl⟩
  rw [if_neg h9] at h
  by_cases h10 : r = "bar"
  · rw [if_pos h10] at h
    cases h
    subst h10
    exact ⟨t10, by rw [lookE, if_neg (by decide +kernel), lookE, if_neg (by decide +kernel), lookE, if_neg (by decide +kernel), lookE, if_neg (by decide +kernel), lookE, if_neg (by decide +kernel), lookE, if_neg (by decide +kernel), lookE, if_neg (by decide +kernel), lookE, if_neg (by decide +kernel), lookE, if_neg (by decide +kernel), lookE, if_neg (by decide +kernel), lookE, if_pos rfl]; rfl⟩
  rw [if_neg h10] at h
  by_cases h11 : r = "self"
  · rw [if_pos h11] at h
    cases h
    subst h11
    exact ⟨t11, by rw [lookE, if_neg (by decide +kernel), lookE, if_neg (by decide +kernel), lookE, if_neg (by decide +kernel), lookE, if_neg (by decide +kernel), lookE, if_neg (by decide +kernel), lookE, if_neg (by decide +kernel), lookE, if_neg (by decide +kernel), lookE, if_neg (by decide +kernel), lookE, if_neg (by decide +kernel), lookE, if_neg (by decide +kernel), lookE, if_neg (by decide +kernel), lookE, if_pos rfl]; rfl⟩
  rw [if_neg h11] at h
  cases h
theorem all_mk {l : PySem.W.OpenLaw} {w : World} {K : PySem.W.Frag} {h : Heap} {mg : Str → Option Value} {fa : Addr} (X : K.In h) (G : h.Ns mainGlobals mg)
    {f0 : Addr} {od0 an0 : Option Addr} {sl0 : Array (Option Value)} {oc0 kV0 dc0 pm0 ct0 : Value} {cd0 : Value}
    {f1 : Addr} {od1 an1 : Option Addr} {sl1 : Array (Option Value)} {oc1 kV1 dc1 pm1 ct1 : Value} {cd1 : Value}
    {f2 : Addr} {od2 an2 : Option Addr} {sl2 : Array (Option Value)} {oc2 kV2 dc2 pm2 ct2 : Value} {cd2 : Value}
    {f3 : Addr} {od3 an3 : Option Addr} {sl3 : Array (Option Value)} {oc3 kV3 dc3 pm3 ct3 : Value} {cd3 : Value}
    {f4 : Addr} {od4 an4 : Option Addr} {sl4 : Array (Option Value)} {oc4 kV4 dc4 pm4 ct4 : Value} {cd4 : Value}
    {f5 : Addr} {od5 an5 : Option Addr} {sl5 : Array (Option Value)} {oc5 kV5 dc5 pm5 ct5 : Value} {cd5 : Value}
    {f6 : Addr} {od6 an6 : Option Addr} {sl6 : Array (Option Value)} {oc6 kV6 dc6 pm6 ct6 : Value} {cd6 : Value}
    {f7 : Addr} {od7 an7 : Option Addr} {sl7 : Array (Option Value)} {oc7 kV7 dc7 pm7 ct7 : Value} {cd7 : Value}
    {f8 : Addr} {od8 an8 : Option Addr} {sl8 : Array (Option Value)} {oc8 kV8 dc8 pm8 ct8 : Value} {cd8 : Value}
    {f9 : Addr} {od9 an9 : Option Addr} {sl9 : Array (Option Value)} {oc9 kV9 dc9 pm9 ct9 : Value} {cd9 : Value}
    {f10 : Addr} {od10 an10 : Option Addr} {sl10 : Array (Option Value)} {oc10 kV10 dc10 pm10 ct10 : Value} {cd10 : Value}
    {f11 : Addr} {od11 an11 : Option Addr} {sl11 : Array (Option Value)} {oc11 kV11 dc11 pm11 ct11 : Value} {cd11 : Value}
    {f12 : Addr} {od12 an12 : Option Addr} {sl12 : Array (Option Value)} {oc12 kV12 dc12 pm12 ct12 : Value} {cd12 : Value}
    {f13 : Addr} {od13 an13 : Option Addr} {sl13 : Array (Option Value)} {oc13 kV13 dc13 pm13 ct13 : Value} {cd13 : Value}
    {f14 : Addr} {od14 an14 : Option Addr} {sl14 : Array (Option Value)} {oc14 kV14 dc14 pm14 ct14 : Value} {cd14 : Value}
    {f15 : Addr} {od15 an15 : Option Addr} {sl15 : Array (Option Value)} {oc15 kV15 dc15 pm15 ct15 : Value} {cd15 : Value}
    {f16 : Addr} {od16 an16 : Option Addr} {sl16 : Array (Option Value)} {oc16 kV16 dc16 pm16 ct16 : Value} {cd16 : Value}
    {f17 : Addr} {od17 an17 : Option Addr} {sl17 : Array (Option Value)} {oc17 kV17 dc17 pm17 ct17 : Value} {cd17 : Value}
    {f18 : Addr} {od18 an18 : Option Addr} {sl18 : Array (Option Value)} {oc18 kV18 dc18 pm18 ct18 : Value} {cd18 : Value}
    {f19 : Addr} {od19 an19 : Option Addr} {sl19 : Array (Option Value)} {oc19 kV19 dc19 pm19 ct19 : Value} {cd19 : Value}
    {f20 : Addr} {od20 an20 : Option Addr} {sl20 : Array (Option Value)} {oc20 kV20 dc20 pm20 ct20 : Value} {cd20 : Value}
    {f21 : Addr} {od21 an21 : Option Addr} {sl21 : Array (Option Value)} {oc21 kV21 dc21 pm21 ct21 : Value} {cd21 : Value}
    {f22 : Addr} {od22 an22 : Option Addr} {sl22 : Array (Option Value)} {oc22 kV22 dc22 pm22 ct22 : Value} {cd22 : Value}
    {f23 : Addr} {od23 an23 : Option Addr} {sl23 : Array (Option Value)} {oc23 kV23 dc23 pm23 ct23 : Value} {cd23 : Value}
    {f24 : Addr} {od24 an24 : Option Addr} {sl24 : Array (Option Value)} {oc24 kV24 dc24 pm24 ct24 : Value} {cd24 : Value}
    {f25 : Addr} {od25 an25 : Option Addr} {sl25 : Array (Option Value)} {oc25 kV25 dc25 pm25 ct25 : Value} {cd25 : Value}
    {f26 : Addr} {od26 an26 : Option Addr} {sl26 : Array (Option Value)} {oc26 kV26 dc26 pm26 ct26 : Value} {cd26 : Value}
    {f27 : Addr} {od27 an27 : Option Addr} {sl27 : Array (Option Value)} {oc27 kV27 dc27 pm27 ct27 : Value} {cd27 : Value}
    {f28 : Addr} {od28 an28 : Option Addr} {sl28 : Array (Option Value)} {oc28 kV28 dc28 pm28 ct28 : Value} {cd28 : Value}
    {f29 : Addr} {od29 an29 : Option Addr} {sl29 : Array (Option Value)} {oc29 kV29 dc29 pm29 ct29 : Value} {cd29 : Value}
    {f30 : Addr} {od30 an30 : Option Addr} {sl30 : Array (Option Value)} {oc30 kV30 dc30 pm30 ct30 : Value} {cd30 : Value}
    {f31 : Addr} {od31 an31 : Option Addr} {sl31 : Array (Option Value)} {oc31 kV31 dc31 pm31 ct31 : Value} {cd31 : Value}
    {f32 : Addr} {od32 an32 : Option Addr} {sl32 : Array (Option Value)} {oc32 kV32 dc32 pm32 ct32 : Value} {cd32 : Value}
    {f33 : Addr} {od33 an33 : Option Addr} {sl33 : Array (Option Value)} {oc33 kV33 dc33 pm33 ct33 : Value} {cd33 : Value}
    {f34 : Addr} {od34 an34 : Option Addr} {sl34 : Array (Option Value)} {oc34 kV34 dc34 pm34 ct34 : Value} {cd34 : Value}
    {f35 : Addr} {od35 an35 : Option Addr} {sl35 : Array (Option Value)} {oc35 kV35 dc35 pm35 ct35 : Value} {cd35 : Value}
    {f36 : Addr} {od36 an36 : Option Addr} {sl36 : Array (Option Value)} {oc36 kV36 dc36 pm36 ct36 : Value} {cd36 : Value}
    {f37 : Addr} {od37 an37 : Option Addr} {sl37 : Array (Option Value)} {oc37 kV37 dc37 pm37 ct37 : Value} {cd37 : Value}
    {f38 : Addr} {od38 an38 : Option Addr} {sl38 : Array (Option Value)} {oc38 kV38 dc38 pm38 ct38 : Value} {cd38 : Value}
    {f39 : Addr} {od39 an39 : Option Addr} {sl39 : Array (Option Value)} {oc39 kV39 dc39 pm39 ct39 : Value} {cd39 : Value}
    {f40 : Addr} {od40 an40 : Option Addr} {sl40 : Array (Option Value)} {oc40 kV40 dc40 pm40 ct40 : Value} {cd40 : Value}
    {f41 : Addr} {od41 an41 : Option Addr} {sl41 : Array (Option Value)} {oc41 kV41 dc41 pm41 ct41 : Value} {cd41 : Value}
    {f42 : Addr} {od42 an42 : Option Addr} {sl42 : Array (Option Value)} {oc42 kV42 dc42 pm42 ct42 : Value} {cd42 : Value}
    {f43 : Addr} {od43 an43 : Option Addr} {sl43 : Array (Option Value)} {oc43 kV43 dc43 pm43 ct43 : Value} {cd43 : Value}
    {f44 : Addr} {od44 an44 : Option Addr} {sl44 : Array (Option Value)} {oc44 kV44 dc44 pm44 ct44 : Value} {cd44 : Value}
    {f45 : Addr} {od45 an45 : Option Addr} {sl45 : Array (Option Value)} {oc45 kV45 dc45 pm45 ct45 : Value} {cd45 : Value}
    {f46 : Addr} {od46 an46 : Option Addr} {sl46 : Array (Option Value)} {oc46 kV46 dc46 pm46 ct46 : Value} {cd46 : Value}
    {f47 : Addr} {od47 an47 : Option Addr} {sl47 : Array (Option Value)} {oc47 kV47 dc47 pm47 ct47 : Value} {cd47 : Value}
    {f48 : Addr} {od48 an48 : Option Addr} {sl48 : Array (Option Value)} {oc48 kV48 dc48 pm48 ct48 : Value} {cd48 : Value}
    {f49 : Addr} {od49 an49 : Option Addr} {sl49 : Array (Option Value)} {oc49 kV49 dc49 pm49 ct49 : Value} {cd49 : Value}
    {f50 : Addr} {od50 an50 : Option Addr} {sl50 : Array (Option Value)} {oc50 kV50 dc50 pm50 ct50 : Value} {cd50 : Value}
    {f51 : Addr} {od51 an51 : Option Addr} {sl51 : Array (Option Value)} {oc51 kV51 dc51 pm51 ct51 : Value} {cd51 : Value}
    {b1 : Addr}
    {b2 : Addr}
    {C52 f52 : Addr} {od52 an52 : Option Addr} {sl52 : Array (Option Value)} {oc52 kV52 dc52 pm52 cd52 ct52 : Value}
    {C53 f53 : Addr} {od53 an53 : Option Addr} {sl53 : Array (Option Value)} {oc53 kV53 dc53 pm53 cd53 ct53 : Value}
    {C54 f54 : Addr} {od54 an54 : Option Addr} {sl54 : Array (Option Value)} {oc54 kV54 dc54 pm54 cd54 ct54 : Value}
    {C55 f55 : Addr} {od55 an55 : Option Addr} {sl55 : Array (Option Value)} {oc55 kV55 dc55 pm55 cd55 ct55 : Value}
    {C56 f56 : Addr} {od56 an56 : Option Addr} {sl56 : Array (Option Value)} {oc56 kV56 dc56 pm56 cd56 ct56 : Value}
    {C57 f57 : Addr} {od57 an57 : Option Addr} {sl57 : Array (Option Value)} {oc57 kV57 dc57 pm57 cd57 ct57 : Value}
    {C58 f58 : Addr} {od58 an58 : Option Addr} {sl58 : Array (Option Value)} {oc58 kV58 dc58 pm58 cd58 ct58 : Value}
    {CB fI : Addr}
    {od59 an59 : Option Addr} {sl59 : Array (Option Value)} {oc59 kV59 dc59 pm59 cd59 ct59 : Value}
    {T59 t59 : Addr} {dT59 d059 : Option Addr} {iT59 : List Value} {nT59 n059 : Nat} {sT59 s059 : Array (Option Value)}
    {f60 : Addr} {od60 an60 : Option Addr} {sl60 : Array (Option Value)} {oc60 kV60 dc60 pm60 cd60 ct60 : Value}
    {f61 : Addr} {od61 an61 : Option Addr} {sl61 : Array (Option Value)} {oc61 kV61 dc61 pm61 cd61 ct61 : Value}
    {f62 : Addr} {od62 an62 : Option Addr} {sl62 : Array (Option Value)} {oc62 kV62 dc62 pm62 cd62 ct62 : Value}
    {f63 : Addr} {od63 an63 : Option Addr} {sl63 : Array (Option Value)} {oc63 kV63 dc63 pm63 cd63 ct63 : Value}
    {f64 : Addr} {od64 an64 : Option Addr} {sl64 : Array (Option Value)} {oc64 kV64 dc64 pm64 cd64 ct64 : Value}
    {tL : Tok}
    {tM : Tok}
    {tgMF : Tok}
    {dMN : Addr} {eMN : List DictEntry} {nMN : Nat} {t1MN t2MN t3MN : Tok}
    {tgMX : Tok}
    {cN : Addr} {dN : Option Addr} {iN : List Value} {nN : Nat} {sN : Array (Option Value)}
    {dME : Addr} {eME : List DictEntry} {nME : Nat} {t0ME t1ME t2ME t3ME t4ME t5ME t6ME t7ME t8ME t9ME t10ME t11ME : Tok}
    {cRU : Addr} {dRU : Option Addr} {iRU : List Value} {nRU : Nat} {sRU : Array (Option Value)}
    {cRM : Addr} {dRM : Option Addr} {iRM : List Value} {nRM : Nat} {sRM : Array (Option Value)}
    {dGV : Addr} {eGV : List DictEntry} {nGV : Nat} {s1GV s2GV : Addr}
    {dDR : Addr} {eDR : List DictEntry} {nDR : Nat} {s0DR s1DR s2DR s5DR s6DR s7DR : Addr}
    {tgMW : Tok}
    (hfa : mg "law" = some (.ref fa))
    (a0 : PySem.W.nsIn K mainGlobals "copied" = some (some (.ref f0))) (l0 : K.lookup f0 = some ⟨oc0, od0, .func (PySem.W.fnOf "copied" "copied" (defArgs s_p_copied) (defBody s_p_copied) (defScope s_p_copied) .none kV0 dc0 pm0 an0 cd0 ct0), sl0⟩) (c0 : PySem.W.codeIn K cd0 "copied" = true) (k0 : PySem.W.keepIn K (.ref f0) = true)
    (a1 : PySem.W.nsIn K mainGlobals "is_name" = some (some (.ref f1))) (l1 : K.lookup f1 = some ⟨oc1, od1, .func (PySem.W.fnOf "is_name" "is_name" (defArgs s_p_is_name) (defBody s_p_is_name) (defScope s_p_is_name) .none kV1 dc1 pm1 an1 cd1 ct1), sl1⟩) (c1 : PySem.W.codeIn K cd1 "is_name" = true) (k1 : PySem.W.keepIn K (.ref f1) = true)
    (a2 : PySem.W.nsIn K mainGlobals "are_names" = some (some (.ref f2))) (l2 : K.lookup f2 = some ⟨oc2, od2, .func (PySem.W.fnOf "are_names" "are_names" (defArgs s_p_are_names) (defBody s_p_are_names) (defScope s_p_are_names) .none kV2 dc2 pm2 an2 cd2 ct2), sl2⟩) (c2 : PySem.W.codeIn K cd2 "are_names" = true) (k2 : PySem.W.keepIn K (.ref f2) = true)
    (a3 : PySem.W.nsIn K mainGlobals "is_number" = some (some (.ref f3))) (l3 : K.lookup f3 = some ⟨oc3, od3, .func (PySem.W.fnOf "is_number" "is_number" (defArgs s_p_is_number) (defBody s_p_is_number) (defScope s_p_is_number) .none kV3 dc3 pm3 an3 cd3 ct3), sl3⟩) (c3 : PySem.W.codeIn K cd3 "is_number" = true) (k3 : PySem.W.keepIn K (.ref f3) = true)
    (a4 : PySem.W.nsIn K mainGlobals "is_lot" = some (some (.ref f4))) (l4 : K.lookup f4 = some ⟨oc4, od4, .func (PySem.W.fnOf "is_lot" "is_lot" (defArgs s_p_is_lot) (defBody s_p_is_lot) (defScope s_p_is_lot) .none kV4 dc4 pm4 an4 cd4 ct4), sl4⟩) (c4 : PySem.W.codeIn K cd4 "is_lot" = true) (k4 : PySem.W.keepIn K (.ref f4) = true)
    (a5 : PySem.W.nsIn K mainGlobals "is_lot_of" = some (some (.ref f5))) (l5 : K.lookup f5 = some ⟨oc5, od5, .func (PySem.W.fnOf "is_lot_of" "is_lot_of" (defArgs s_p_is_lot_of) (defBody s_p_is_lot_of) (defScope s_p_is_lot_of) .none kV5 dc5 pm5 an5 cd5 ct5), sl5⟩) (c5 : PySem.W.codeIn K cd5 "is_lot_of" = true) (k5 : PySem.W.keepIn K (.ref f5) = true)
    (a6 : PySem.W.nsIn K mainGlobals "are_apart" = some (some (.ref f6))) (l6 : K.lookup f6 = some ⟨oc6, od6, .func (PySem.W.fnOf "are_apart" "are_apart" (defArgs s_p_are_apart) (defBody s_p_are_apart) (defScope s_p_are_apart) .none kV6 dc6 pm6 an6 cd6 ct6), sl6⟩) (c6 : PySem.W.codeIn K cd6 "are_apart" = true) (k6 : PySem.W.keepIn K (.ref f6) = true)
    (a7 : PySem.W.nsIn K mainGlobals "overlap" = some (some (.ref f7))) (l7 : K.lookup f7 = some ⟨oc7, od7, .func (PySem.W.fnOf "overlap" "overlap" (defArgs s_p_overlap) (defBody s_p_overlap) (defScope s_p_overlap) .none kV7 dc7 pm7 an7 cd7 ct7), sl7⟩) (c7 : PySem.W.codeIn K cd7 "overlap" = true) (k7 : PySem.W.keepIn K (.ref f7) = true)
    (a8 : PySem.W.nsIn K mainGlobals "is_within" = some (some (.ref f8))) (l8 : K.lookup f8 = some ⟨oc8, od8, .func (PySem.W.fnOf "is_within" "is_within" (defArgs s_p_is_within) (defBody s_p_is_within) (defScope s_p_is_within) .none kV8 dc8 pm8 an8 cd8 ct8), sl8⟩) (c8 : PySem.W.codeIn K cd8 "is_within" = true) (k8 : PySem.W.keepIn K (.ref f8) = true)
    (a9 : PySem.W.nsIn K mainGlobals "common" = some (some (.ref f9))) (l9 : K.lookup f9 = some ⟨oc9, od9, .func (PySem.W.fnOf "common" "common" (defArgs s_p_common) (defBody s_p_common) (defScope s_p_common) .none kV9 dc9 pm9 an9 cd9 ct9), sl9⟩) (c9 : PySem.W.codeIn K cd9 "common" = true) (k9 : PySem.W.keepIn K (.ref f9) = true)
    (a10 : PySem.W.nsIn K mainGlobals "rest" = some (some (.ref f10))) (l10 : K.lookup f10 = some ⟨oc10, od10, .func (PySem.W.fnOf "rest" "rest" (defArgs s_p_rest) (defBody s_p_rest) (defScope s_p_rest) .none kV10 dc10 pm10 an10 cd10 ct10), sl10⟩) (c10 : PySem.W.codeIn K cd10 "rest" = true) (k10 : PySem.W.keepIn K (.ref f10) = true)
    (a11 : PySem.W.nsIn K mainGlobals "is_listed" = some (some (.ref f11))) (l11 : K.lookup f11 = some ⟨oc11, od11, .func (PySem.W.fnOf "is_listed" "is_listed" (defArgs s_p_is_listed) (defBody s_p_is_listed) (defScope s_p_is_listed) .none kV11 dc11 pm11 an11 cd11 ct11), sl11⟩) (c11 : PySem.W.codeIn K cd11 "is_listed" = true) (k11 : PySem.W.keepIn K (.ref f11) = true)
    (a12 : PySem.W.nsIn K mainGlobals "check_finds" = some (some (.ref f12))) (l12 : K.lookup f12 = some ⟨oc12, od12, .func (PySem.W.fnOf "check_finds" "check_finds" (defArgs s_p_check_finds) (defBody s_p_check_finds) (defScope s_p_check_finds) .none kV12 dc12 pm12 an12 cd12 ct12), sl12⟩) (c12 : PySem.W.codeIn K cd12 "check_finds" = true) (k12 : PySem.W.keepIn K (.ref f12) = true)
    (a13 : PySem.W.nsIn K mainGlobals "check_different" = some (some (.ref f13))) (l13 : K.lookup f13 = some ⟨oc13, od13, .func (PySem.W.fnOf "check_different" "check_different" (defArgs s_p_check_different) (defBody s_p_check_different) (defScope s_p_check_different) .none kV13 dc13 pm13 an13 cd13 ct13), sl13⟩) (c13 : PySem.W.codeIn K cd13 "check_different" = true) (k13 : PySem.W.keepIn K (.ref f13) = true)
    (a14 : PySem.W.nsIn K mainGlobals "is_fact" = some (some (.ref f14))) (l14 : K.lookup f14 = some ⟨oc14, od14, .func (PySem.W.fnOf "is_fact" "is_fact" (defArgs s_p_is_fact) (defBody s_p_is_fact) (defScope s_p_is_fact) .none kV14 dc14 pm14 an14 cd14 ct14), sl14⟩) (c14 : PySem.W.codeIn K cd14 "is_fact" = true) (k14 : PySem.W.keepIn K (.ref f14) = true)
    (a15 : PySem.W.nsIn K mainGlobals "is_marked_fact" = some (some (.ref f15))) (l15 : K.lookup f15 = some ⟨oc15, od15, .func (PySem.W.fnOf "is_marked_fact" "is_marked_fact" (defArgs s_p_is_marked_fact) (defBody s_p_is_marked_fact) (defScope s_p_is_marked_fact) .none kV15 dc15 pm15 an15 cd15 ct15), sl15⟩) (c15 : PySem.W.codeIn K cd15 "is_marked_fact" = true) (k15 : PySem.W.keepIn K (.ref f15) = true)
    (a16 : PySem.W.nsIn K mainGlobals "names_in" = some (some (.ref f16))) (l16 : K.lookup f16 = some ⟨oc16, od16, .func (PySem.W.fnOf "names_in" "names_in" (defArgs s_p_names_in) (defBody s_p_names_in) (defScope s_p_names_in) .none kV16 dc16 pm16 an16 cd16 ct16), sl16⟩) (c16 : PySem.W.codeIn K cd16 "names_in" = true) (k16 : PySem.W.keepIn K (.ref f16) = true)
    (a17 : PySem.W.nsIn K mainGlobals "check_facts" = some (some (.ref f17))) (l17 : K.lookup f17 = some ⟨oc17, od17, .func (PySem.W.fnOf "check_facts" "check_facts" (defArgs s_p_check_facts) (defBody s_p_check_facts) (defScope s_p_check_facts) .none kV17 dc17 pm17 an17 cd17 ct17), sl17⟩) (c17 : PySem.W.codeIn K cd17 "check_facts" = true) (k17 : PySem.W.keepIn K (.ref f17) = true)
    (a18 : PySem.W.nsIn K mainGlobals "is_statement" = some (some (.ref f18))) (l18 : K.lookup f18 = some ⟨oc18, od18, .func (PySem.W.fnOf "is_statement" "is_statement" (defArgs s_p_is_statement) (defBody s_p_is_statement) (defScope s_p_is_statement) .none kV18 dc18 pm18 an18 cd18 ct18), sl18⟩) (c18 : PySem.W.codeIn K cd18 "is_statement" = true) (k18 : PySem.W.keepIn K (.ref f18) = true)
    (a19 : PySem.W.nsIn K mainGlobals "first_fault" = some (some (.ref f19))) (l19 : K.lookup f19 = some ⟨oc19, od19, .func (PySem.W.fnOf "first_fault" "first_fault" (defArgs s_p_first_fault) (defBody s_p_first_fault) (defScope s_p_first_fault) .none kV19 dc19 pm19 an19 cd19 ct19), sl19⟩) (c19 : PySem.W.codeIn K cd19 "first_fault" = true) (k19 : PySem.W.keepIn K (.ref f19) = true)
    (a20 : PySem.W.nsIn K mainGlobals "shows" = some (some (.ref f20))) (l20 : K.lookup f20 = some ⟨oc20, od20, .func (PySem.W.fnOf "shows" "shows" (defArgs s_p_shows) (defBody s_p_shows) (defScope s_p_shows) .none kV20 dc20 pm20 an20 cd20 ct20), sl20⟩) (c20 : PySem.W.codeIn K cd20 "shows" = true) (k20 : PySem.W.keepIn K (.ref f20) = true)
    (a21 : PySem.W.nsIn K mainGlobals "_is_before" = some (some (.ref f21))) (l21 : K.lookup f21 = some ⟨oc21, od21, .func (PySem.W.fnOf "_is_before" "_is_before" (defArgs s_p_is_before) (defBody s_p_is_before) (defScope s_p_is_before) .none kV21 dc21 pm21 an21 cd21 ct21), sl21⟩) (c21 : PySem.W.codeIn K cd21 "_is_before" = true) (k21 : PySem.W.keepIn K (.ref f21) = true)
    (a22 : PySem.W.nsIn K mainGlobals "_is_entry" = some (some (.ref f22))) (l22 : K.lookup f22 = some ⟨oc22, od22, .func (PySem.W.fnOf "_is_entry" "_is_entry" (defArgs s_p_is_entry) (defBody s_p_is_entry) (defScope s_p_is_entry) .none kV22 dc22 pm22 an22 cd22 ct22), sl22⟩) (c22 : PySem.W.codeIn K cd22 "_is_entry" = true) (k22 : PySem.W.keepIn K (.ref f22) = true)
    (a23 : PySem.W.nsIn K mainGlobals "_is_right" = some (some (.ref f23))) (l23 : K.lookup f23 = some ⟨oc23, od23, .func (PySem.W.fnOf "_is_right" "_is_right" (defArgs s_p_is_right) (defBody s_p_is_right) (defScope s_p_is_right) .none kV23 dc23 pm23 an23 cd23 ct23), sl23⟩) (c23 : PySem.W.codeIn K cd23 "_is_right" = true) (k23 : PySem.W.keepIn K (.ref f23) = true)
    (a24 : PySem.W.nsIn K mainGlobals "_is_word" = some (some (.ref f24))) (l24 : K.lookup f24 = some ⟨oc24, od24, .func (PySem.W.fnOf "_is_word" "_is_word" (defArgs s_p_is_word) (defBody s_p_is_word) (defScope s_p_is_word) .none kV24 dc24 pm24 an24 cd24 ct24), sl24⟩) (c24 : PySem.W.codeIn K cd24 "_is_word" = true) (k24 : PySem.W.keepIn K (.ref f24) = true)
    (a25 : PySem.W.nsIn K mainGlobals "_is_of_fact" = some (some (.ref f25))) (l25 : K.lookup f25 = some ⟨oc25, od25, .func (PySem.W.fnOf "_is_of_fact" "_is_of_fact" (defArgs s_p_is_of_fact) (defBody s_p_is_of_fact) (defScope s_p_is_of_fact) .none kV25 dc25 pm25 an25 cd25 ct25), sl25⟩) (c25 : PySem.W.codeIn K cd25 "_is_of_fact" = true) (k25 : PySem.W.keepIn K (.ref f25) = true)
    (a26 : PySem.W.nsIn K mainGlobals "_says" = some (some (.ref f26))) (l26 : K.lookup f26 = some ⟨oc26, od26, .func (PySem.W.fnOf "_says" "_says" (defArgs s_p_says) (defBody s_p_says) (defScope s_p_says) .none kV26 dc26 pm26 an26 cd26 ct26), sl26⟩) (c26 : PySem.W.codeIn K cd26 "_says" = true) (k26 : PySem.W.keepIn K (.ref f26) = true)
    (a27 : PySem.W.nsIn K mainGlobals "_have_lots" = some (some (.ref f27))) (l27 : K.lookup f27 = some ⟨oc27, od27, .func (PySem.W.fnOf "_have_lots" "_have_lots" (defArgs s_p_have_lots) (defBody s_p_have_lots) (defScope s_p_have_lots) .none kV27 dc27 pm27 an27 cd27 ct27), sl27⟩) (c27 : PySem.W.codeIn K cd27 "_have_lots" = true) (k27 : PySem.W.keepIn K (.ref f27) = true)
    (a28 : PySem.W.nsIn K mainGlobals "_are_befores" = some (some (.ref f28))) (l28 : K.lookup f28 = some ⟨oc28, od28, .func (PySem.W.fnOf "_are_befores" "_are_befores" (defArgs s_p_are_befores) (defBody s_p_are_befores) (defScope s_p_are_befores) .none kV28 dc28 pm28 an28 cd28 ct28), sl28⟩) (c28 : PySem.W.codeIn K cd28 "_are_befores" = true) (k28 : PySem.W.keepIn K (.ref f28) = true)
    (a29 : PySem.W.nsIn K mainGlobals "_have_overlap" = some (some (.ref f29))) (l29 : K.lookup f29 = some ⟨oc29, od29, .func (PySem.W.fnOf "_have_overlap" "_have_overlap" (defArgs s_p_have_overlap) (defBody s_p_have_overlap) (defScope s_p_have_overlap) .none kV29 dc29 pm29 an29 cd29 ct29), sl29⟩) (c29 : PySem.W.codeIn K cd29 "_have_overlap" = true) (k29 : PySem.W.keepIn K (.ref f29) = true)
    (a30 : PySem.W.nsIn K mainGlobals "_is_apart" = some (some (.ref f30))) (l30 : K.lookup f30 = some ⟨oc30, od30, .func (PySem.W.fnOf "_is_apart" "_is_apart" (defArgs s_p_is_apart) (defBody s_p_is_apart) (defScope s_p_is_apart) .none kV30 dc30 pm30 an30 cd30 ct30), sl30⟩) (c30 : PySem.W.codeIn K cd30 "_is_apart" = true) (k30 : PySem.W.keepIn K (.ref f30) = true)
    (a31 : PySem.W.nsIn K mainGlobals "_is_across" = some (some (.ref f31))) (l31 : K.lookup f31 = some ⟨oc31, od31, .func (PySem.W.fnOf "_is_across" "_is_across" (defArgs s_p_is_across) (defBody s_p_is_across) (defScope s_p_is_across) .none kV31 dc31 pm31 an31 cd31 ct31), sl31⟩) (c31 : PySem.W.codeIn K cd31 "_is_across" = true) (k31 : PySem.W.keepIn K (.ref f31) = true)
    (a32 : PySem.W.nsIn K mainGlobals "_part_of" = some (some (.ref f32))) (l32 : K.lookup f32 = some ⟨oc32, od32, .func (PySem.W.fnOf "_part_of" "_part_of" (defArgs s_p_part_of) (defBody s_p_part_of) (defScope s_p_part_of) .none kV32 dc32 pm32 an32 cd32 ct32), sl32⟩) (c32 : PySem.W.codeIn K cd32 "_part_of" = true) (k32 : PySem.W.keepIn K (.ref f32) = true)
    (a33 : PySem.W.nsIn K mainGlobals "_is_self" = some (some (.ref f33))) (l33 : K.lookup f33 = some ⟨oc33, od33, .func (PySem.W.fnOf "_is_self" "_is_self" (defArgs s_p_is_self) (defBody s_p_is_self) (defScope s_p_is_self) .none kV33 dc33 pm33 an33 cd33 ct33), sl33⟩) (c33 : PySem.W.codeIn K cd33 "_is_self" = true) (k33 : PySem.W.keepIn K (.ref f33) = true)
    (a34 : PySem.W.nsIn K mainGlobals "_is_word_of" = some (some (.ref f34))) (l34 : K.lookup f34 = some ⟨oc34, od34, .func (PySem.W.fnOf "_is_word_of" "_is_word_of" (defArgs s_p_is_word_of) (defBody s_p_is_word_of) (defScope s_p_is_word_of) .none kV34 dc34 pm34 an34 cd34 ct34), sl34⟩) (c34 : PySem.W.codeIn K cd34 "_is_word_of" = true) (k34 : PySem.W.keepIn K (.ref f34) = true)
    (a35 : PySem.W.nsIn K mainGlobals "_law_start" = some (some (.ref f35))) (l35 : K.lookup f35 = some ⟨oc35, od35, .func (PySem.W.fnOf "_law_start" "_law_start" (defArgs s_l_start) (defBody s_l_start) (defScope s_l_start) .none kV35 dc35 pm35 an35 cd35 ct35), sl35⟩) (c35 : PySem.W.codeIn K cd35 "_law_start" = true) (k35 : PySem.W.keepIn K (.ref f35) = true)
    (a36 : PySem.W.nsIn K mainGlobals "_law_draw" = some (some (.ref f36))) (l36 : K.lookup f36 = some ⟨oc36, od36, .func (PySem.W.fnOf "_law_draw" "_law_draw" (defArgs s_l_draw) (defBody s_l_draw) (defScope s_l_draw) .none kV36 dc36 pm36 an36 cd36 ct36), sl36⟩) (c36 : PySem.W.codeIn K cd36 "_law_draw" = true) (k36 : PySem.W.keepIn K (.ref f36) = true)
    (a37 : PySem.W.nsIn K mainGlobals "_law_pick" = some (some (.ref f37))) (l37 : K.lookup f37 = some ⟨oc37, od37, .func (PySem.W.fnOf "_law_pick" "_law_pick" (defArgs s_l_pick) (defBody s_l_pick) (defScope s_l_pick) .none kV37 dc37 pm37 an37 cd37 ct37), sl37⟩) (c37 : PySem.W.codeIn K cd37 "_law_pick" = true) (k37 : PySem.W.keepIn K (.ref f37) = true)
    (a38 : PySem.W.nsIn K mainGlobals "_law_shuffle" = some (some (.ref f38))) (l38 : K.lookup f38 = some ⟨oc38, od38, .func (PySem.W.fnOf "_law_shuffle" "_law_shuffle" (defArgs s_l_shuffle) (defBody s_l_shuffle) (defScope s_l_shuffle) .none kV38 dc38 pm38 an38 cd38 ct38), sl38⟩) (c38 : PySem.W.codeIn K cd38 "_law_shuffle" = true) (k38 : PySem.W.keepIn K (.ref f38) = true)
    (a39 : PySem.W.nsIn K mainGlobals "_law_letters" = some (some (.ref f39))) (l39 : K.lookup f39 = some ⟨oc39, od39, .func (PySem.W.fnOf "_law_letters" "_law_letters" (defArgs s_l_letters) (defBody s_l_letters) (defScope s_l_letters) .none kV39 dc39 pm39 an39 cd39 ct39), sl39⟩) (c39 : PySem.W.codeIn K cd39 "_law_letters" = true) (k39 : PySem.W.keepIn K (.ref f39) = true)
    (a40 : PySem.W.nsIn K mainGlobals "_law_word" = some (some (.ref f40))) (l40 : K.lookup f40 = some ⟨oc40, od40, .func (PySem.W.fnOf "_law_word" "_law_word" (defArgs s_l_word) (defBody s_l_word) (defScope s_l_word) .none kV40 dc40 pm40 an40 cd40 ct40), sl40⟩) (c40 : PySem.W.codeIn K cd40 "_law_word" = true) (k40 : PySem.W.keepIn K (.ref f40) = true)
    (a41 : PySem.W.nsIn K mainGlobals "_law_names" = some (some (.ref f41))) (l41 : K.lookup f41 = some ⟨oc41, od41, .func (PySem.W.fnOf "_law_names" "_law_names" (defArgs s_l_names) (defBody s_l_names) (defScope s_l_names) .none kV41 dc41 pm41 an41 cd41 ct41), sl41⟩) (c41 : PySem.W.codeIn K cd41 "_law_names" = true) (k41 : PySem.W.keepIn K (.ref f41) = true)
    (a42 : PySem.W.nsIn K mainGlobals "_law_subset" = some (some (.ref f42))) (l42 : K.lookup f42 = some ⟨oc42, od42, .func (PySem.W.fnOf "_law_subset" "_law_subset" (defArgs s_l_subset) (defBody s_l_subset) (defScope s_l_subset) .none kV42 dc42 pm42 an42 cd42 ct42), sl42⟩) (c42 : PySem.W.codeIn K cd42 "_law_subset" = true) (k42 : PySem.W.keepIn K (.ref f42) = true)
    (a43 : PySem.W.nsIn K mainGlobals "_law_same" = some (some (.ref f43))) (l43 : K.lookup f43 = some ⟨oc43, od43, .func (PySem.W.fnOf "_law_same" "_law_same" (defArgs s_l_same) (defBody s_l_same) (defScope s_l_same) .none kV43 dc43 pm43 an43 cd43 ct43), sl43⟩) (c43 : PySem.W.codeIn K cd43 "_law_same" = true) (k43 : PySem.W.keepIn K (.ref f43) = true)
    (a44 : PySem.W.nsIn K mainGlobals "_law_both" = some (some (.ref f44))) (l44 : K.lookup f44 = some ⟨oc44, od44, .func (PySem.W.fnOf "_law_both" "_law_both" (defArgs s_l_both) (defBody s_l_both) (defScope s_l_both) .none kV44 dc44 pm44 an44 cd44 ct44), sl44⟩) (c44 : PySem.W.codeIn K cd44 "_law_both" = true) (k44 : PySem.W.keepIn K (.ref f44) = true)
    (a45 : PySem.W.nsIn K mainGlobals "_law_less" = some (some (.ref f45))) (l45 : K.lookup f45 = some ⟨oc45, od45, .func (PySem.W.fnOf "_law_less" "_law_less" (defArgs s_l_less) (defBody s_l_less) (defScope s_l_less) .none kV45 dc45 pm45 an45 cd45 ct45), sl45⟩) (c45 : PySem.W.codeIn K cd45 "_law_less" = true) (k45 : PySem.W.keepIn K (.ref f45) = true)
    (a46 : PySem.W.nsIn K mainGlobals "_law_cross" = some (some (.ref f46))) (l46 : K.lookup f46 = some ⟨oc46, od46, .func (PySem.W.fnOf "_law_cross" "_law_cross" (defArgs s_l_cross) (defBody s_l_cross) (defScope s_l_cross) .none kV46 dc46 pm46 an46 cd46 ct46), sl46⟩) (c46 : PySem.W.codeIn K cd46 "_law_cross" = true) (k46 : PySem.W.keepIn K (.ref f46) = true)
    (a47 : PySem.W.nsIn K mainGlobals "_law_lots" = some (some (.ref f47))) (l47 : K.lookup f47 = some ⟨oc47, od47, .func (PySem.W.fnOf "_law_lots" "_law_lots" (defArgs s_l_lots) (defBody s_l_lots) (defScope s_l_lots) .none kV47 dc47 pm47 an47 cd47 ct47), sl47⟩) (c47 : PySem.W.codeIn K cd47 "_law_lots" = true) (k47 : PySem.W.keepIn K (.ref f47) = true)
    (a48 : PySem.W.nsIn K mainGlobals "_law_side" = some (some (.ref f48))) (l48 : K.lookup f48 = some ⟨oc48, od48, .func (PySem.W.fnOf "_law_side" "_law_side" (defArgs s_l_side) (defBody s_l_side) (defScope s_l_side) .none kV48 dc48 pm48 an48 cd48 ct48), sl48⟩) (c48 : PySem.W.codeIn K cd48 "_law_side" = true) (k48 : PySem.W.keepIn K (.ref f48) = true)
    (a49 : PySem.W.nsIn K mainGlobals "_law_across_due" = some (some (.ref f49))) (l49 : K.lookup f49 = some ⟨oc49, od49, .func (PySem.W.fnOf "_law_across_due" "_law_across_due" (defArgs s_l_across_due) (defBody s_l_across_due) (defScope s_l_across_due) .none kV49 dc49 pm49 an49 cd49 ct49), sl49⟩) (c49 : PySem.W.codeIn K cd49 "_law_across_due" = true) (k49 : PySem.W.keepIn K (.ref f49) = true)
    (a50 : PySem.W.nsIn K mainGlobals "_law_apart_due" = some (some (.ref f50))) (l50 : K.lookup f50 = some ⟨oc50, od50, .func (PySem.W.fnOf "_law_apart_due" "_law_apart_due" (defArgs s_l_apart_due) (defBody s_l_apart_due) (defScope s_l_apart_due) .none kV50 dc50 pm50 an50 cd50 ct50), sl50⟩) (c50 : PySem.W.codeIn K cd50 "_law_apart_due" = true) (k50 : PySem.W.keepIn K (.ref f50) = true)
    (a51 : PySem.W.nsIn K mainGlobals "law" = some (some (.ref f51))) (l51 : K.lookup f51 = some ⟨oc51, od51, .func (PySem.W.fnOf "law" "law" (defArgs s_p_law) (defBody s_p_law) (defScope s_p_law) .none kV51 dc51 pm51 an51 cd51 ct51), sl51⟩) (c51 : PySem.W.codeIn K cd51 "law" = true) (k51 : PySem.W.keepIn K (.ref f51) = true)
    (z_len : PySem.W.nsIn K mainGlobals "len" = some none)
    (z_range : PySem.W.nsIn K mainGlobals "range" = some none)
    (z_int : PySem.W.nsIn K mainGlobals "int" = some none)
    (z_abs : PySem.W.nsIn K mainGlobals "abs" = some none)
    (z_isinstance : PySem.W.nsIn K mainGlobals "isinstance" = some none)
    (z_all : PySem.W.nsIn K mainGlobals "all" = some none)
    (z_any : PySem.W.nsIn K mainGlobals "any" = some none)
    (z_sorted : PySem.W.nsIn K mainGlobals "sorted" = some none)
    (z_set : PySem.W.nsIn K mainGlobals "set" = some none)
    (z_list : PySem.W.nsIn K mainGlobals "list" = some none)
    (z_tuple : PySem.W.nsIn K mainGlobals "tuple" = some none)
    (z_str : PySem.W.nsIn K mainGlobals "str" = some none)
    (z_bool : PySem.W.nsIn K mainGlobals "bool" = some none)
    (z_enumerate : PySem.W.nsIn K mainGlobals "enumerate" = some none)
    (z_min : PySem.W.nsIn K mainGlobals "min" = some none)
    (z_max : PySem.W.nsIn K mainGlobals "max" = some none)
    (ab1 : PySem.W.nsIn K mainGlobals "FindError" = some (some (.ref b1)))
    (ab2 : PySem.W.nsIn K mainGlobals "Missing" = some (some (.ref b2)))
    (a52 : PySem.W.nsIn K mainGlobals "InvalidFind" = some (some (.ref C52)))
    (ei52 : PySem.W.excInitIn K C52 [.type "ValueError", .type "Exception", .type "BaseException", .type "object"] "ValueError.__new__" = true)
    (eo52 : PySem.W.excOver K C52 [.type "ValueError", .type "Exception", .type "BaseException", .type "object"] = true)
    (sa52 : PySem.W.findIn K (.ref C52) "__setattr__" = some (some (.builtin "object.__setattr__")))
    (ex52 : PySem.W.subIn K (.ref C52) (.type "BaseException") = some true)
    (ty52 : PySem.W.typeIn K (.ref C52) = some (.type "type"))
    (kC52 : PySem.W.keepIn K (.ref C52) = true)
    (hd52 : PySem.W.hasDictIn K C52 = true)
    (ga52 : PySem.W.findIn K (.ref C52) "__getattribute__" = some (some (.builtin "BaseException.__getattribute__")))
    (gg52 : PySem.W.findIn K (.ref C52) "__getattr__" = some none)
    (in52 : PySem.W.findIn K (.ref C52) "__init__" = some (some (.ref f52)))
    (ti52 : PySem.W.typeIn K (.ref f52) = some (.type "function"))
    (l52 : K.lookup f52 = some ⟨oc52, od52, .func (PySem.W.fnOf "__init__" "InvalidFind.__init__" (defArgs s_c_InvalidFind_init) (defBody s_c_InvalidFind_init) (defScope s_c_InvalidFind_init) .none kV52 dc52 pm52 an52 cd52 ct52), sl52⟩) (c52 : PySem.W.codeIn K cd52 "InvalidFind.__init__" = true) (k52 : PySem.W.keepIn K (.ref f52) = true)
    (ca52 : PySem.W.exmAny K (.ref C52) [.ref b1, .ref b2] = some true)
    (nf52_0 : PySem.W.findIn K (.ref C52) "at" = some none)
    (nf52_1 : PySem.W.findIn K (.ref C52) "code" = some none)
    (a53 : PySem.W.nsIn K mainGlobals "InvalidWord" = some (some (.ref C53)))
    (ei53 : PySem.W.excInitIn K C53 [.type "ValueError", .type "Exception", .type "BaseException", .type "object"] "ValueError.__new__" = true)
    (eo53 : PySem.W.excOver K C53 [.type "ValueError", .type "Exception", .type "BaseException", .type "object"] = true)
    (sa53 : PySem.W.findIn K (.ref C53) "__setattr__" = some (some (.builtin "object.__setattr__")))
    (ex53 : PySem.W.subIn K (.ref C53) (.type "BaseException") = some true)
    (ty53 : PySem.W.typeIn K (.ref C53) = some (.type "type"))
    (kC53 : PySem.W.keepIn K (.ref C53) = true)
    (hd53 : PySem.W.hasDictIn K C53 = true)
    (ga53 : PySem.W.findIn K (.ref C53) "__getattribute__" = some (some (.builtin "BaseException.__getattribute__")))
    (gg53 : PySem.W.findIn K (.ref C53) "__getattr__" = some none)
    (in53 : PySem.W.findIn K (.ref C53) "__init__" = some (some (.ref f53)))
    (ti53 : PySem.W.typeIn K (.ref f53) = some (.type "function"))
    (l53 : K.lookup f53 = some ⟨oc53, od53, .func (PySem.W.fnOf "__init__" "InvalidWord.__init__" (defArgs s_c_InvalidWord_init) (defBody s_c_InvalidWord_init) (defScope s_c_InvalidWord_init) .none kV53 dc53 pm53 an53 cd53 ct53), sl53⟩) (c53 : PySem.W.codeIn K cd53 "InvalidWord.__init__" = true) (k53 : PySem.W.keepIn K (.ref f53) = true)
    (ca53 : PySem.W.exmAny K (.ref C53) [.ref b1, .ref b2] = some true)
    (nf53_0 : PySem.W.findIn K (.ref C53) "at" = some none)
    (nf53_1 : PySem.W.findIn K (.ref C53) "code" = some none)
    (a54 : PySem.W.nsIn K mainGlobals "InvalidFact" = some (some (.ref C54)))
    (ei54 : PySem.W.excInitIn K C54 [.type "ValueError", .type "Exception", .type "BaseException", .type "object"] "ValueError.__new__" = true)
    (eo54 : PySem.W.excOver K C54 [.type "ValueError", .type "Exception", .type "BaseException", .type "object"] = true)
    (sa54 : PySem.W.findIn K (.ref C54) "__setattr__" = some (some (.builtin "object.__setattr__")))
    (ex54 : PySem.W.subIn K (.ref C54) (.type "BaseException") = some true)
    (ty54 : PySem.W.typeIn K (.ref C54) = some (.type "type"))
    (kC54 : PySem.W.keepIn K (.ref C54) = true)
    (hd54 : PySem.W.hasDictIn K C54 = true)
    (ga54 : PySem.W.findIn K (.ref C54) "__getattribute__" = some (some (.builtin "BaseException.__getattribute__")))
    (gg54 : PySem.W.findIn K (.ref C54) "__getattr__" = some none)
    (in54 : PySem.W.findIn K (.ref C54) "__init__" = some (some (.ref f54)))
    (ti54 : PySem.W.typeIn K (.ref f54) = some (.type "function"))
    (l54 : K.lookup f54 = some ⟨oc54, od54, .func (PySem.W.fnOf "__init__" "InvalidFact.__init__" (defArgs s_c_InvalidFact_init) (defBody s_c_InvalidFact_init) (defScope s_c_InvalidFact_init) .none kV54 dc54 pm54 an54 cd54 ct54), sl54⟩) (c54 : PySem.W.codeIn K cd54 "InvalidFact.__init__" = true) (k54 : PySem.W.keepIn K (.ref f54) = true)
    (ca54 : PySem.W.exmAny K (.ref C54) [.ref b1, .ref b2] = some true)
    (nf54_0 : PySem.W.findIn K (.ref C54) "at" = some none)
    (nf54_1 : PySem.W.findIn K (.ref C54) "code" = some none)
    (a55 : PySem.W.nsIn K mainGlobals "DuplicateName" = some (some (.ref C55)))
    (ei55 : PySem.W.excInitIn K C55 [.type "ValueError", .type "Exception", .type "BaseException", .type "object"] "ValueError.__new__" = true)
    (eo55 : PySem.W.excOver K C55 [.type "ValueError", .type "Exception", .type "BaseException", .type "object"] = true)
    (sa55 : PySem.W.findIn K (.ref C55) "__setattr__" = some (some (.builtin "object.__setattr__")))
    (ex55 : PySem.W.subIn K (.ref C55) (.type "BaseException") = some true)
    (ty55 : PySem.W.typeIn K (.ref C55) = some (.type "type"))
    (kC55 : PySem.W.keepIn K (.ref C55) = true)
    (hd55 : PySem.W.hasDictIn K C55 = true)
    (ga55 : PySem.W.findIn K (.ref C55) "__getattribute__" = some (some (.builtin "BaseException.__getattribute__")))
    (gg55 : PySem.W.findIn K (.ref C55) "__getattr__" = some none)
    (in55 : PySem.W.findIn K (.ref C55) "__init__" = some (some (.ref f55)))
    (ti55 : PySem.W.typeIn K (.ref f55) = some (.type "function"))
    (l55 : K.lookup f55 = some ⟨oc55, od55, .func (PySem.W.fnOf "__init__" "DuplicateName.__init__" (defArgs s_c_DuplicateName_init) (defBody s_c_DuplicateName_init) (defScope s_c_DuplicateName_init) .none kV55 dc55 pm55 an55 cd55 ct55), sl55⟩) (c55 : PySem.W.codeIn K cd55 "DuplicateName.__init__" = true) (k55 : PySem.W.keepIn K (.ref f55) = true)
    (ca55 : PySem.W.exmAny K (.ref C55) [.ref b1, .ref b2] = some true)
    (nf55_0 : PySem.W.findIn K (.ref C55) "name" = some none)
    (nf55_1 : PySem.W.findIn K (.ref C55) "code" = some none)
    (a56 : PySem.W.nsIn K mainGlobals "TooMany" = some (some (.ref C56)))
    (ei56 : PySem.W.excInitIn K C56 [.type "ValueError", .type "Exception", .type "BaseException", .type "object"] "ValueError.__new__" = true)
    (eo56 : PySem.W.excOver K C56 [.type "ValueError", .type "Exception", .type "BaseException", .type "object"] = true)
    (sa56 : PySem.W.findIn K (.ref C56) "__setattr__" = some (some (.builtin "object.__setattr__")))
    (ex56 : PySem.W.subIn K (.ref C56) (.type "BaseException") = some true)
    (ty56 : PySem.W.typeIn K (.ref C56) = some (.type "type"))
    (kC56 : PySem.W.keepIn K (.ref C56) = true)
    (hd56 : PySem.W.hasDictIn K C56 = true)
    (ga56 : PySem.W.findIn K (.ref C56) "__getattribute__" = some (some (.builtin "BaseException.__getattribute__")))
    (gg56 : PySem.W.findIn K (.ref C56) "__getattr__" = some none)
    (in56 : PySem.W.findIn K (.ref C56) "__init__" = some (some (.ref f56)))
    (ti56 : PySem.W.typeIn K (.ref f56) = some (.type "function"))
    (l56 : K.lookup f56 = some ⟨oc56, od56, .func (PySem.W.fnOf "__init__" "TooMany.__init__" (defArgs s_c_TooMany_init) (defBody s_c_TooMany_init) (defScope s_c_TooMany_init) .none kV56 dc56 pm56 an56 cd56 ct56), sl56⟩) (c56 : PySem.W.codeIn K cd56 "TooMany.__init__" = true) (k56 : PySem.W.keepIn K (.ref f56) = true)
    (ca56 : PySem.W.exmAny K (.ref C56) [.ref b1, .ref b2] = some true)
    (nf56_0 : PySem.W.findIn K (.ref C56) "most" = some none)
    (nf56_1 : PySem.W.findIn K (.ref C56) "code" = some none)
    (a57 : PySem.W.nsIn K mainGlobals "UnknownName" = some (some (.ref C57)))
    (ei57 : PySem.W.excInitIn K C57 [.type "LookupError", .type "Exception", .type "BaseException", .type "object"] "LookupError.__new__" = true)
    (eo57 : PySem.W.excOver K C57 [.type "LookupError", .type "Exception", .type "BaseException", .type "object"] = true)
    (sa57 : PySem.W.findIn K (.ref C57) "__setattr__" = some (some (.builtin "object.__setattr__")))
    (ex57 : PySem.W.subIn K (.ref C57) (.type "BaseException") = some true)
    (ty57 : PySem.W.typeIn K (.ref C57) = some (.type "type"))
    (kC57 : PySem.W.keepIn K (.ref C57) = true)
    (hd57 : PySem.W.hasDictIn K C57 = true)
    (ga57 : PySem.W.findIn K (.ref C57) "__getattribute__" = some (some (.builtin "BaseException.__getattribute__")))
    (gg57 : PySem.W.findIn K (.ref C57) "__getattr__" = some none)
    (in57 : PySem.W.findIn K (.ref C57) "__init__" = some (some (.ref f57)))
    (ti57 : PySem.W.typeIn K (.ref f57) = some (.type "function"))
    (l57 : K.lookup f57 = some ⟨oc57, od57, .func (PySem.W.fnOf "__init__" "UnknownName.__init__" (defArgs s_c_UnknownName_init) (defBody s_c_UnknownName_init) (defScope s_c_UnknownName_init) .none kV57 dc57 pm57 an57 cd57 ct57), sl57⟩) (c57 : PySem.W.codeIn K cd57 "UnknownName.__init__" = true) (k57 : PySem.W.keepIn K (.ref f57) = true)
    (ca57 : PySem.W.exmAny K (.ref C57) [.ref b1, .ref b2] = some true)
    (nf57_0 : PySem.W.findIn K (.ref C57) "name" = some none)
    (nf57_1 : PySem.W.findIn K (.ref C57) "code" = some none)
    (a58 : PySem.W.nsIn K mainGlobals "UnknownFind" = some (some (.ref C58)))
    (ei58 : PySem.W.excInitIn K C58 [.type "LookupError", .type "Exception", .type "BaseException", .type "object"] "LookupError.__new__" = true)
    (eo58 : PySem.W.excOver K C58 [.type "LookupError", .type "Exception", .type "BaseException", .type "object"] = true)
    (sa58 : PySem.W.findIn K (.ref C58) "__setattr__" = some (some (.builtin "object.__setattr__")))
    (ex58 : PySem.W.subIn K (.ref C58) (.type "BaseException") = some true)
    (ty58 : PySem.W.typeIn K (.ref C58) = some (.type "type"))
    (kC58 : PySem.W.keepIn K (.ref C58) = true)
    (hd58 : PySem.W.hasDictIn K C58 = true)
    (ga58 : PySem.W.findIn K (.ref C58) "__getattribute__" = some (some (.builtin "BaseException.__getattribute__")))
    (gg58 : PySem.W.findIn K (.ref C58) "__getattr__" = some none)
    (in58 : PySem.W.findIn K (.ref C58) "__init__" = some (some (.ref f58)))
    (ti58 : PySem.W.typeIn K (.ref f58) = some (.type "function"))
    (l58 : K.lookup f58 = some ⟨oc58, od58, .func (PySem.W.fnOf "__init__" "UnknownFind.__init__" (defArgs s_c_UnknownFind_init) (defBody s_c_UnknownFind_init) (defScope s_c_UnknownFind_init) .none kV58 dc58 pm58 an58 cd58 ct58), sl58⟩) (c58 : PySem.W.codeIn K cd58 "UnknownFind.__init__" = true) (k58 : PySem.W.keepIn K (.ref f58) = true)
    (ca58 : PySem.W.exmAny K (.ref C58) [.ref b1, .ref b2] = some true)
    (nf58_0 : PySem.W.findIn K (.ref C58) "name" = some none)
    (nf58_1 : PySem.W.findIn K (.ref C58) "code" = some none)
    (aCB : PySem.W.nsIn K mainGlobals "Book" = some (some (.ref CB)))
    (pgB : PySem.W.plainGet K CB Str.empty = true)
    (hdB : PySem.W.hasDictIn K CB = true)
    (poB : PySem.W.plainOver K CB = true)
    (saB : PySem.W.findIn K (.ref CB) "__setattr__" = some (some (.builtin "object.__setattr__")))
    (mkB : PySem.W.makesIn K CB = true)
    (inB : PySem.W.findIn K (.ref CB) "__init__" = some (some (.ref fI)))
    (fnB : PySem.W.isFn K (.ref fI) = true)
    (kpB : PySem.W.keepIn K (.ref CB) = true)
    (na_finds : PySem.W.findIn K (.ref CB) "_finds" = some none)
    (na_words : PySem.W.findIn K (.ref CB) "_words" = some none)
    (l59 : K.lookup fI = some ⟨oc59, od59, .func (PySem.W.fnOf "__init__" "Book.__init__" (defArgs s_c_Book_init) (defBody s_c_Book_init) (defScope s_c_Book_init) (.ref T59) kV59 dc59 pm59 an59 cd59 ct59), sl59⟩) (c59 : PySem.W.codeIn K cd59 "Book.__init__" = true) (k59 : PySem.W.keepIn K (.ref fI) = true)
    (lT59 : K.lookup T59 = some ⟨.type "tuple", dT59, .seq iT59.toArray nT59, sT59⟩) (vT59 : Vals [V.ref t59] iT59) (lz59 : K.lookup t59 = some ⟨.type "tuple", d059, .seq ([] : List Value).toArray n059, s059⟩)
    (me60 : PySem.W.findIn K (.ref CB) "finds" = some (some (.ref f60))) (mf60 : PySem.W.isFn K (.ref f60) = true) (l60 : K.lookup f60 = some ⟨oc60, od60, .func (PySem.W.fnOf "finds" "Book.finds" (defArgs s_c_Book_finds) (defBody s_c_Book_finds) (defScope s_c_Book_finds) .none kV60 dc60 pm60 an60 cd60 ct60), sl60⟩) (c60 : PySem.W.codeIn K cd60 "Book.finds" = true) (k60 : PySem.W.keepIn K (.ref f60) = true)
    (me61 : PySem.W.findIn K (.ref CB) "lots" = some (some (.ref f61))) (mf61 : PySem.W.isFn K (.ref f61) = true) (l61 : K.lookup f61 = some ⟨oc61, od61, .func (PySem.W.fnOf "lots" "Book.lots" (defArgs s_c_Book_lots) (defBody s_c_Book_lots) (defScope s_c_Book_lots) .none kV61 dc61 pm61 an61 cd61 ct61), sl61⟩) (c61 : PySem.W.codeIn K cd61 "Book.lots" = true) (k61 : PySem.W.keepIn K (.ref f61) = true)
    (me62 : PySem.W.findIn K (.ref CB) "word" = some (some (.ref f62))) (mf62 : PySem.W.isFn K (.ref f62) = true) (l62 : K.lookup f62 = some ⟨oc62, od62, .func (PySem.W.fnOf "word" "Book.word" (defArgs s_c_Book_word) (defBody s_c_Book_word) (defScope s_c_Book_word) .none kV62 dc62 pm62 an62 cd62 ct62), sl62⟩) (c62 : PySem.W.codeIn K cd62 "Book.word" = true) (k62 : PySem.W.keepIn K (.ref f62) = true)
    (me63 : PySem.W.findIn K (.ref CB) "_marks" = some (some (.ref f63))) (mf63 : PySem.W.isFn K (.ref f63) = true) (l63 : K.lookup f63 = some ⟨oc63, od63, .func (PySem.W.fnOf "_marks" "Book._marks" (defArgs s_c_Book__marks) (defBody s_c_Book__marks) (defScope s_c_Book__marks) .none kV63 dc63 pm63 an63 cd63 ct63), sl63⟩) (c63 : PySem.W.codeIn K cd63 "Book._marks" = true) (k63 : PySem.W.keepIn K (.ref f63) = true)
    (me64 : PySem.W.findIn K (.ref CB) "__contains__" = some (some (.ref f64))) (mf64 : PySem.W.isFn K (.ref f64) = true) (l64 : K.lookup f64 = some ⟨oc64, od64, .func (PySem.W.fnOf "__contains__" "Book.__contains__" (defArgs s_c_Book_contains) (defBody s_c_Book_contains) (defScope s_c_Book_contains) .none kV64 dc64 pm64 an64 cd64 ct64), sl64⟩) (c64 : PySem.W.codeIn K cd64 "Book.__contains__" = true) (k64 : PySem.W.keepIn K (.ref f64) = true)
    (xL : PySem.W.nsIn K mainGlobals "_LETTERS" = some (some (.str "abcdefghijklmnopqrstuvwxyz" tL)))
    (xM : PySem.W.nsIn K mainGlobals "_MOST_LETTERS" = some (some (.int 6 tM)))
    (xgMF : PySem.W.nsIn K mainGlobals "MOST_FINDS" = some (some (.int 12 tgMF)))
    (xMN : PySem.W.nsIn K mainGlobals "_MANY_NAMES" = some (some (.ref dMN))) (yMN : K.lookup dMN = some ⟨.type "dict", none, .dict eMN.toArray nMN, #[]⟩) (wMN : (dMN == sysModules) = false) (uMN : PySem.W.KeysLit w.params eMN) (vMN : Paired (fun (e : DictEntry) (p : Str × Value) => (∃ t, e.key = .str p.1 t) ∧ e.val = p.2) eMN [("before", .int 2 t1MN), ("first", .int 1 t2MN), ("last", .int 1 t3MN)])
    (xgMX : PySem.W.nsIn K mainGlobals "MOST_FACTS" = some (some (.int 30 tgMX)))
    (xN : PySem.W.nsIn K mainGlobals "_NEVER" = some (some (.ref cN))) (yN : K.lookup cN = some ⟨.type "tuple", dN, .seq iN.toArray nN, sN⟩) (vN : Vals [V.str "never"] iN)
    (xME : PySem.W.nsIn K mainGlobals "_MANY_ELDERS" = some (some (.ref dME))) (yME : K.lookup dME = some ⟨.type "dict", none, .dict eME.toArray nME, #[]⟩) (wME : (dME == sysModules) = false) (uME : PySem.W.KeysLit w.params eME) (vME : Paired (fun (e : DictEntry) (p : Str × Value) => (∃ t, e.key = .str p.1 t) ∧ e.val = p.2) eME [("single", .int 0 t0ME), ("all", .int 0 t1ME), ("word", .int 1 t2ME), ("union", .int 2 t3ME), ("common", .int 2 t4ME), ("rest", .int 2 t5ME), ("fact", .int 1 t6ME), ("apart", .int 3 t7ME), ("across", .int 3 t8ME), ("chain", .int 2 t9ME), ("bar", .int 3 t10ME), ("self", .int 1 t11ME)])
    (xRU : PySem.W.nsIn K mainGlobals "RULES" = some (some (.ref cRU))) (yRU : K.lookup cRU = some ⟨.type "tuple", dRU, .seq iRU.toArray nRU, sRU⟩) (vRU : Vals (ruleNs.map V.str) iRU)
    (xRM : PySem.W.nsIn K mainGlobals "_RULES_WITH_A_MARK" = some (some (.ref cRM))) (yRM : K.lookup cRM = some ⟨.type "tuple", dRM, .seq iRM.toArray nRM, sRM⟩) (vRM : Vals ([Str.ofString "word", Str.ofString "fact"].map V.str) iRM)
    (xGV : PySem.W.nsIn K mainGlobals "_GIVEN" = some (some (.ref dGV))) (yGV : K.lookup dGV = some ⟨.type "dict", none, .dict eGV.toArray nGV, #[]⟩) (wGV : (dGV == sysModules) = false) (uGV : PySem.W.KeysLit w.params eGV) (vGV : Paired (fun (e : DictEntry) (p : Str × Value) => (∃ t, e.key = .str p.1 t) ∧ e.val = p.2) eGV [("single", .ref s1GV), ("all", .ref s2GV), ("word", .ref f24), ("fact", .ref f25)])
    (xDR : PySem.W.nsIn K mainGlobals "_DRAWN" = some (some (.ref dDR))) (yDR : K.lookup dDR = some ⟨.type "dict", none, .dict eDR.toArray nDR, #[]⟩) (wDR : (dDR == sysModules) = false) (uDR : PySem.W.KeysLit w.params eDR) (vDR : Paired (fun (e : DictEntry) (p : Str × Value) => (∃ t, e.key = .str p.1 t) ∧ e.val = p.2) eDR [("union", .ref s0DR), ("common", .ref s1DR), ("rest", .ref s2DR), ("apart", .ref f30), ("across", .ref f31), ("chain", .ref s5DR), ("bar", .ref s6DR), ("self", .ref s7DR)])
    (xgMW : PySem.W.nsIn K mainGlobals "MOST_WORDS" = some (some (.int 40 tgMW))) :
    ∃ fd : FuncData, (∀ (s : Shared) (v : Value), BindsTo s fd ⟨[v], []⟩ [("_law_script", v)]) ∧ ∀ base : Heap, K.In base → base.Ns mainGlobals mg → FnOk l.prog w K mg base CX0 15 fa fd ["_law_script"] (spLawK K) := by
  have e := hfa.symm.trans (PySem.W.mg_of X G a51)
  cases e
  have Z : Zs mg := ⟨PySem.W.mg_none_of X G z_len, PySem.W.mg_none_of X G z_range, PySem.W.mg_none_of X G z_int, PySem.W.mg_none_of X G z_abs, PySem.W.mg_none_of X G z_isinstance, PySem.W.mg_none_of X G z_all, PySem.W.mg_none_of X G z_any, PySem.W.mg_none_of X G z_sorted, PySem.W.mg_none_of X G z_set, PySem.W.mg_none_of X G z_list, PySem.W.mg_none_of X G z_tuple, PySem.W.mg_none_of X G z_str, PySem.W.mg_none_of X G z_bool, PySem.W.mg_none_of X G z_enumerate, PySem.W.mg_none_of X G z_min, PySem.W.mg_none_of X G z_max⟩
  have A_p_copied : At K mg "copied" s_p_copied ["value"] := at_mk X G a0 l0 c0 k0 fun _ _ _ _ _ _ us hl => match us, hl with | [_], _ => rfl
  have A_p_is_name : At K mg "is_name" s_p_is_name ["value"] := at_mk X G a1 l1 c1 k1 fun _ _ _ _ _ _ us hl => match us, hl with | [_], _ => rfl
  have A_p_are_names : At K mg "are_names" s_p_are_names ["values"] := at_mk X G a2 l2 c2 k2 fun _ _ _ _ _ _ us hl => match us, hl with | [_], _ => rfl
  have A_p_is_number : At K mg "is_number" s_p_is_number ["value", "least", "most"] := at_mk X G a3 l3 c3 k3 fun _ _ _ _ _ _ us hl => match us, hl with | [_, _, _], _ => rfl
  have A_p_is_lot : At K mg "is_lot" s_p_is_lot ["value"] := at_mk X G a4 l4 c4 k4 fun _ _ _ _ _ _ us hl => match us, hl with | [_], _ => rfl
  have A_p_is_lot_of : At K mg "is_lot_of" s_p_is_lot_of ["finds", "value"] := at_mk X G a5 l5 c5 k5 fun _ _ _ _ _ _ us hl => match us, hl with | [_, _], _ => rfl
  have A_p_are_apart : At K mg "are_apart" s_p_are_apart ["one", "other"] := at_mk X G a6 l6 c6 k6 fun _ _ _ _ _ _ us hl => match us, hl with | [_, _], _ => rfl
  have A_p_overlap : At K mg "overlap" s_p_overlap ["one", "other"] := at_mk X G a7 l7 c7 k7 fun _ _ _ _ _ _ us hl => match us, hl with | [_, _], _ => rfl
  have A_p_is_within : At K mg "is_within" s_p_is_within ["one", "other"] := at_mk X G a8 l8 c8 k8 fun _ _ _ _ _ _ us hl => match us, hl with | [_, _], _ => rfl
  have A_p_common : At K mg "common" s_p_common ["one", "other"] := at_mk X G a9 l9 c9 k9 fun _ _ _ _ _ _ us hl => match us, hl with | [_, _], _ => rfl
  have A_p_rest : At K mg "rest" s_p_rest ["one", "other"] := at_mk X G a10 l10 c10 k10 fun _ _ _ _ _ _ us hl => match us, hl with | [_, _], _ => rfl
  have A_p_is_listed : At K mg "is_listed" s_p_is_listed ["value"] := at_mk X G a11 l11 c11 k11 fun _ _ _ _ _ _ us hl => match us, hl with | [_], _ => rfl
  have A_p_check_finds : At K mg "check_finds" s_p_check_finds ["finds"] := at_mk X G a12 l12 c12 k12 fun _ _ _ _ _ _ us hl => match us, hl with | [_], _ => rfl
  have A_p_check_different : At K mg "check_different" s_p_check_different ["names"] := at_mk X G a13 l13 c13 k13 fun _ _ _ _ _ _ us hl => match us, hl with | [_], _ => rfl
  have A_p_is_fact : At K mg "is_fact" s_p_is_fact ["value"] := at_mk X G a14 l14 c14 k14 fun _ _ _ _ _ _ us hl => match us, hl with | [_], _ => rfl
  have A_p_is_marked_fact : At K mg "is_marked_fact" s_p_is_marked_fact ["value"] := at_mk X G a15 l15 c15 k15 fun _ _ _ _ _ _ us hl => match us, hl with | [_], _ => rfl
  have A_p_names_in : At K mg "names_in" s_p_names_in ["fact"] := at_mk X G a16 l16 c16 k16 fun _ _ _ _ _ _ us hl => match us, hl with | [_], _ => rfl
  have A_p_check_facts : At K mg "check_facts" s_p_check_facts ["finds", "facts"] := at_mk X G a17 l17 c17 k17 fun _ _ _ _ _ _ us hl => match us, hl with | [_, _], _ => rfl
  have A_p_is_statement : At K mg "is_statement" s_p_is_statement ["value"] := at_mk X G a18 l18 c18 k18 fun _ _ _ _ _ _ us hl => match us, hl with | [_], _ => rfl
  have A_p_first_fault : At K mg "first_fault" s_p_first_fault ["book", "facts", "entries"] := at_mk X G a19 l19 c19 k19 fun _ _ _ _ _ _ us hl => match us, hl with | [_, _, _], _ => rfl
  have A_p_shows : At K mg "shows" s_p_shows ["book", "facts", "entries", "statement"] := at_mk X G a20 l20 c20 k20 fun _ _ _ _ _ _ us hl => match us, hl with | [_, _, _, _], _ => rfl
  have A_p_is_before : At K mg "_is_before" s_p_is_before ["value"] := at_mk X G a21 l21 c21 k21 fun _ _ _ _ _ _ us hl => match us, hl with | [_], _ => rfl
  have A_p_is_entry : At K mg "_is_entry" s_p_is_entry ["value", "at"] := at_mk X G a22 l22 c22 k22 fun _ _ _ _ _ _ us hl => match us, hl with | [_, _], _ => rfl
  have A_p_is_right : At K mg "_is_right" s_p_is_right ["book", "facts", "entries", "entry"] := at_mk X G a23 l23 c23 k23 fun _ _ _ _ _ _ us hl => match us, hl with | [_, _, _, _], _ => rfl
  have A_p_is_word : At K mg "_is_word" s_p_is_word ["book", "facts", "statement", "elders"] := at_mk X G a24 l24 c24 k24 fun _ _ _ _ _ _ us hl => match us, hl with | [_, _, _, _], _ => rfl
  have A_p_is_of_fact : At K mg "_is_of_fact" s_p_is_of_fact ["book", "facts", "statement", "elders"] := at_mk X G a25 l25 c25 k25 fun _ _ _ _ _ _ us hl => match us, hl with | [_, _, _, _], _ => rfl
  have A_p_says : At K mg "_says" s_p_says ["fact", "x", "y"] := at_mk X G a26 l26 c26 k26 fun _ _ _ _ _ _ us hl => match us, hl with | [_, _, _], _ => rfl
  have A_p_have_lots : At K mg "_have_lots" s_p_have_lots ["told"] := at_mk X G a27 l27 c27 k27 fun _ _ _ _ _ _ us hl => match us, hl with | [_], _ => rfl
  have A_p_are_befores : At K mg "_are_befores" s_p_are_befores ["told"] := at_mk X G a28 l28 c28 k28 fun _ _ _ _ _ _ us hl => match us, hl with | [_], _ => rfl
  have A_p_have_overlap : At K mg "_have_overlap" s_p_have_overlap ["told"] := at_mk X G a29 l29 c29 k29 fun _ _ _ _ _ _ us hl => match us, hl with | [_], _ => rfl
  have A_p_is_apart : At K mg "_is_apart" s_p_is_apart ["statement", "told"] := at_mk X G a30 l30 c30 k30 fun _ _ _ _ _ _ us hl => match us, hl with | [_, _], _ => rfl
  have A_p_is_across : At K mg "_is_across" s_p_is_across ["statement", "told"] := at_mk X G a31 l31 c31 k31 fun _ _ _ _ _ _ us hl => match us, hl with | [_, _], _ => rfl
  have A_p_part_of : At K mg "_part_of" s_p_part_of ["name", "one", "other"] := at_mk X G a32 l32 c32 k32 fun _ _ _ _ _ _ us hl => match us, hl with | [_, _, _], _ => rfl
  have A_p_is_self : At K mg "_is_self" s_p_is_self ["statement", "told"] := at_mk X G a33 l33 c33 k33 fun _ _ _ _ _ _ us hl => match us, hl with | [_, _], _ => rfl
  have A_p_is_word_of : At K mg "_is_word_of" s_p_is_word_of ["finds", "value"] := at_mk X G a34 l34 c34 k34 fun _ _ _ _ _ _ us hl => match us, hl with | [_, _], _ => rfl
  have A_l_start : At K mg "_law_start" s_l_start ["_law_script", "_law_own"] := at_mk X G a35 l35 c35 k35 fun _ _ _ _ _ _ us hl => match us, hl with | [_, _], _ => rfl
  have A_l_draw : At K mg "_law_draw" s_l_draw ["_law_state", "_law_many"] := at_mk X G a36 l36 c36 k36 fun _ _ _ _ _ _ us hl => match us, hl with | [_, _], _ => rfl
  have A_l_pick : At K mg "_law_pick" s_l_pick ["_law_state", "_law_pool"] := at_mk X G a37 l37 c37 k37 fun _ _ _ _ _ _ us hl => match us, hl with | [_, _], _ => rfl
  have A_l_shuffle : At K mg "_law_shuffle" s_l_shuffle ["_law_state", "_law_pool"] := at_mk X G a38 l38 c38 k38 fun _ _ _ _ _ _ us hl => match us, hl with | [_, _], _ => rfl
  have A_l_letters : At K mg "_law_letters" s_l_letters [] := at_mk X G a39 l39 c39 k39 fun _ _ _ _ _ _ us hl => match us, hl with | [], _ => rfl
  have A_l_word : At K mg "_law_word" s_l_word ["_law_state", "_law_longest"] := at_mk X G a40 l40 c40 k40 fun _ _ _ _ _ _ us hl => match us, hl with | [_, _], _ => rfl
  have A_l_names : At K mg "_law_names" s_l_names ["_law_state", "_law_many"] := at_mk X G a41 l41 c41 k41 fun _ _ _ _ _ _ us hl => match us, hl with | [_, _], _ => rfl
  have A_l_subset : At K mg "_law_subset" s_l_subset ["_law_state", "_law_pool"] := at_mk X G a42 l42 c42 k42 fun _ _ _ _ _ _ us hl => match us, hl with | [_, _], _ => rfl
  have A_l_same : At K mg "_law_same" s_l_same ["_law_got", "_law_due"] := at_mk X G a43 l43 c43 k43 fun _ _ _ _ _ _ us hl => match us, hl with | [_, _], _ => rfl
  have A_l_both : At K mg "_law_both" s_l_both ["_law_p", "_law_q"] := at_mk X G a44 l44 c44 k44 fun _ _ _ _ _ _ us hl => match us, hl with | [_, _], _ => rfl
  have A_l_less : At K mg "_law_less" s_l_less ["_law_p", "_law_q"] := at_mk X G a45 l45 c45 k45 fun _ _ _ _ _ _ us hl => match us, hl with | [_, _], _ => rfl
  have A_l_cross : At K mg "_law_cross" s_l_cross ["_law_p", "_law_q"] := at_mk X G a46 l46 c46 k46 fun _ _ _ _ _ _ us hl => match us, hl with | [_, _], _ => rfl
  have A_l_lots : At K mg "_law_lots" s_l_lots ["_law_state", "_law_pool"] := at_mk X G a47 l47 c47 k47 fun _ _ _ _ _ _ us hl => match us, hl with | [_, _], _ => rfl
  have A_l_side : At K mg "_law_side" s_l_side ["_law_p", "_law_q", "_law_x"] := at_mk X G a48 l48 c48 k48 fun _ _ _ _ _ _ us hl => match us, hl with | [_, _, _], _ => rfl
  have A_l_across_due : At K mg "_law_across_due" s_l_across_due ["_law_p", "_law_q", "_law_u", "_law_v", "_law_x", "_law_y"] := at_mk X G a49 l49 c49 k49 fun _ _ _ _ _ _ us hl => match us, hl with | [_, _, _, _, _, _], _ => rfl
  have A_l_apart_due : At K mg "_law_apart_due" s_l_apart_due ["_law_p", "_law_q", "_law_u", "_law_v", "_law_x", "_law_y"] := at_mk X G a50 l50 c50 k50 fun _ _ _ _ _ _ us hl => match us, hl with | [_, _, _, _, _, _], _ => rfl
  have A_p_law : At K mg "law" s_p_law ["_law_script"] := at_mk X G a51 l51 c51 k51 fun _ _ _ _ _ _ us hl => match us, hl with | [_], _ => rfl
  have hm1 : mg "FindError" = some (.ref b1) := PySem.W.mg_of X G ab1
  have hm2 : mg "Missing" = some (.ref b2) := PySem.W.mg_of X G ab2
  have F_c_InvalidFind_init := fun_mk (x := "__init__") (qual := "InvalidFind.__init__") (st := s_c_InvalidFind_init) l52 c52 k52
  have E_c_InvalidFind_init : ErrC K mg "InvalidFind" "InvalidFind.__init__" s_c_InvalidFind_init ["self", "at"] ["at", "code"] C52 f52 _ := ⟨PySem.W.mg_of X G a52, ⟨⟨_, _, _, _, PySem.F.excBase_ValueError, PySem.F.store_ValueError, ei52, eo52⟩, sa52, ex52, ty52, kC52, hd52⟩, ⟨ga52, gg52, ex52, hd52⟩, (fun f hf => by
      simp only [List.mem_cons, List.not_mem_nil, or_false] at hf
      rcases hf with rfl | rfl
      · exact nf52_0
      · exact nf52_1), in52, ti52, F_c_InvalidFind_init, F_c_InvalidFind_init.binds (ps := ["self", "at"]) (fun _ _ _ _ _ _ us hl => match us, hl with | [_, _], _ => rfl), fun c1 c2 h1 h2 => by
    cases h1.symm.trans hm1
    cases h2.symm.trans hm2
    exact ca52⟩
  have F_c_InvalidWord_init := fun_mk (x := "__init__") (qual := "InvalidWord.__init__") (st := s_c_InvalidWord_init) l53 c53 k53
  have E_c_InvalidWord_init : ErrC K mg "InvalidWord" "InvalidWord.__init__" s_c_InvalidWord_init ["self", "at"] ["at", "code"] C53 f53 _ := ⟨PySem.W.mg_of X G a53, ⟨⟨_, _, _, _, PySem.F.excBase_ValueError, PySem.F.store_ValueError, ei53, eo53⟩, sa53, ex53, ty53, kC53, hd53⟩, ⟨ga53, gg53, ex53, hd53⟩, (fun f hf => by
      simp only [List.mem_cons, List.not_mem_nil, or_false] at hf
      rcases hf with rfl | rfl
      · exact nf53_0
      · exact nf53_1), in53, ti53, F_c_InvalidWord_init, F_c_InvalidWord_init.binds (ps := ["self", "at"]) (fun _ _ _ _ _ _ us hl => match us, hl with | [_, _], _ => rfl), fun c1 c2 h1 h2 => by
    cases h1.symm.trans hm1
    cases h2.symm.trans hm2
    exact ca53⟩
  have F_c_InvalidFact_init := fun_mk (x := "__init__") (qual := "InvalidFact.__init__") (st := s_c_InvalidFact_init) l54 c54 k54
  have E_c_InvalidFact_init : ErrC K mg "InvalidFact" "InvalidFact.__init__" s_c_InvalidFact_init ["self", "at"] ["at", "code"] C54 f54 _ := ⟨PySem.W.mg_of X G a54, ⟨⟨_, _, _, _, PySem.F.excBase_ValueError, PySem.F.store_ValueError, ei54, eo54⟩, sa54, ex54, ty54, kC54, hd54⟩, ⟨ga54, gg54, ex54, hd54⟩, (fun f hf => by
      simp only [List.mem_cons, List.not_mem_nil, or_false] at hf
      rcases hf with rfl | rfl
      · exact nf54_0
      · exact nf54_1), in54, ti54, F_c_InvalidFact_init, F_c_InvalidFact_init.binds (ps := ["self", "at"]) (fun _ _ _ _ _ _ us hl => match us, hl with | [_, _], _ => rfl), fun c1 c2 h1 h2 => by
    cases h1.symm.trans hm1
    cases h2.symm.trans hm2
    exact ca54⟩
  have F_c_DuplicateName_init := fun_mk (x := "__init__") (qual := "DuplicateName.__init__") (st := s_c_DuplicateName_init) l55 c55 k55
  have E_c_DuplicateName_init : ErrC K mg "DuplicateName" "DuplicateName.__init__" s_c_DuplicateName_init ["self", "name"] ["name", "code"] C55 f55 _ := ⟨PySem.W.mg_of X G a55, ⟨⟨_, _, _, _, PySem.F.excBase_ValueError, PySem.F.store_ValueError, ei55, eo55⟩, sa55, ex55, ty55, kC55, hd55⟩, ⟨ga55, gg55, ex55, hd55⟩, (fun f hf => by
      simp only [List.mem_cons, List.not_mem_nil, or_false] at hf
      rcases hf with rfl | rfl
      · exact nf55_0
      · exact nf55_1), in55, ti55, F_c_DuplicateName_init, F_c_DuplicateName_init.binds (ps := ["self", "name"]) (fun _ _ _ _ _ _ us hl => match us, hl with | [_, _], _ => rfl), fun c1 c2 h1 h2 => by
    cases h1.symm.trans hm1
    cases h2.symm.trans hm2
    exact ca55⟩
  have F_c_TooMany_init := fun_mk (x := "__init__") (qual := "TooMany.__init__") (st := s_c_TooMany_init) l56 c56 k56
  have E_c_TooMany_init : ErrC K mg "TooMany" "TooMany.__init__" s_c_TooMany_init ["self", "most"] ["most", "code"] C56 f56 _ := ⟨PySem.W.mg_of X G a56, ⟨⟨_, _, _, _, PySem.F.excBase_ValueError, PySem.F.store_ValueError, ei56, eo56⟩, sa56, ex56, ty56, kC56, hd56⟩, ⟨ga56, gg56, ex56, hd56⟩, (fun f hf => by
      simp only [List.mem_cons, List.not_mem_nil, or_false] at hf
      rcases hf with rfl | rfl
      · exact nf56_0
      · exact nf56_1), in56, ti56, F_c_TooMany_init, F_c_TooMany_init.binds (ps := ["self", "most"]) (fun _ _ _ _ _ _ us hl => match us, hl with | [_, _], _ => rfl), fun c1 c2 h1 h2 => by
    cases h1.symm.trans hm1
    cases h2.symm.trans hm2
    exact ca56⟩
  have F_c_UnknownName_init := fun_mk (x := "__init__") (qual := "UnknownName.__init__") (st := s_c_UnknownName_init) l57 c57 k57
  have E_c_UnknownName_init : ErrC K mg "UnknownName" "UnknownName.__init__" s_c_UnknownName_init ["self", "name"] ["name", "code"] C57 f57 _ := ⟨PySem.W.mg_of X G a57, ⟨⟨_, _, _, _, PySem.F.excBase_LookupError, PySem.F.store_LookupError, ei57, eo57⟩, sa57, ex57, ty57, kC57, hd57⟩, ⟨ga57, gg57, ex57, hd57⟩, (fun f hf => by
      simp only [List.mem_cons, List.not_mem_nil, or_false] at hf
      rcases hf with rfl | rfl
      · exact nf57_0
      · exact nf57_1), in57, ti57, F_c_UnknownName_init, F_c_UnknownName_init.binds (ps := ["self", "name"]) (fun _ _ _ _ _ _ us hl => match us, hl with | [_, _], _ => rfl), fun c1 c2 h1 h2 => by
    cases h1.symm.trans hm1
    cases h2.symm.trans hm2
    exact ca57⟩
  have F_c_UnknownFind_init := fun_mk (x := "__init__") (qual := "UnknownFind.__init__") (st := s_c_UnknownFind_init) l58 c58 k58
  have E_c_UnknownFind_init : ErrC K mg "UnknownFind" "UnknownFind.__init__" s_c_UnknownFind_init ["self", "name"] ["name", "code"] C58 f58 _ := ⟨PySem.W.mg_of X G a58, ⟨⟨_, _, _, _, PySem.F.excBase_LookupError, PySem.F.store_LookupError, ei58, eo58⟩, sa58, ex58, ty58, kC58, hd58⟩, ⟨ga58, gg58, ex58, hd58⟩, (fun f hf => by
      simp only [List.mem_cons, List.not_mem_nil, or_false] at hf
      rcases hf with rfl | rfl
      · exact nf58_0
      · exact nf58_1), in58, ti58, F_c_UnknownFind_init, F_c_UnknownFind_init.binds (ps := ["self", "name"]) (fun _ _ _ _ _ _ us hl => match us, hl with | [_, _], _ => rfl), fun c1 c2 h1 h2 => by
    cases h1.symm.trans hm1
    cases h2.symm.trans hm2
    exact ca58⟩
  have B_Book : ClsF K mg CB "Book" ["_finds", "_words"] := ⟨PySem.W.mg_of X G aCB, ⟨pgB, hdB, poB, saB⟩, fun f hf => by
      simp only [List.mem_cons, List.not_mem_nil, or_false] at hf
      rcases hf with rfl | rfl
      · exact na_finds
      · exact na_words⟩
  have F_c_Book_init : FunD K "__init__" "Book.__init__" (defArgs s_c_Book_init) (defBody s_c_Book_init) (defScope s_c_Book_init) [.ref t59] [] fI _ := ⟨⟨_, _, _, _, _, _, _, _, _, _, rfl, l59, c59, .inr ⟨List.cons_ne_nil _ _, T59, _, iT59, nT59, rfl, lT59, rfl, vT59⟩, .inl rfl⟩, k59⟩
  obtain ⟨ds_c_Book_init, vd_c_Book_init, bd_c_Book_init⟩ := FunD.binds1 (ps := ["self", "finds", "words"]) F_c_Book_init 3 1 (List.cons_ne_nil _ _) rfl fun T kV doc pm an cdv ct us its hl hi => match us, hl, its, hi with | [_, _, _], _, [_], _ => ⟨_, rfl, rfl⟩
  have dE_c_Book_init : dNone K [] := rfl
  have F_c_Book_finds : FunD K "finds" "Book.finds" (defArgs s_c_Book_finds) (defBody s_c_Book_finds) (defScope s_c_Book_finds) [] [] f60 _ := ⟨⟨_, _, _, _, _, _, _, _, _, _, rfl, l60, c60, .inl ⟨rfl, rfl⟩, .inl rfl⟩, k60⟩
  have bd_c_Book_finds : Binds K _ ["self"] [] := (fun_mk (x := "finds") (qual := "Book.finds") (st := s_c_Book_finds) l60 c60 k60).binds (ps := ["self"]) (fun _ _ _ _ _ _ us hl => match us, hl with | [_], _ => rfl)
  have F_c_Book_lots : FunD K "lots" "Book.lots" (defArgs s_c_Book_lots) (defBody s_c_Book_lots) (defScope s_c_Book_lots) [] [] f61 _ := ⟨⟨_, _, _, _, _, _, _, _, _, _, rfl, l61, c61, .inl ⟨rfl, rfl⟩, .inl rfl⟩, k61⟩
  have bd_c_Book_lots : Binds K _ ["self"] [] := (fun_mk (x := "lots") (qual := "Book.lots") (st := s_c_Book_lots) l61 c61 k61).binds (ps := ["self"]) (fun _ _ _ _ _ _ us hl => match us, hl with | [_], _ => rfl)
  have F_c_Book_word : FunD K "word" "Book.word" (defArgs s_c_Book_word) (defBody s_c_Book_word) (defScope s_c_Book_word) [] [] f62 _ := ⟨⟨_, _, _, _, _, _, _, _, _, _, rfl, l62, c62, .inl ⟨rfl, rfl⟩, .inl rfl⟩, k62⟩
  have bd_c_Book_word : Binds K _ ["self", "mark"] [] := (fun_mk (x := "word") (qual := "Book.word") (st := s_c_Book_word) l62 c62 k62).binds (ps := ["self", "mark"]) (fun _ _ _ _ _ _ us hl => match us, hl with | [_, _], _ => rfl)
  have F_c_Book__marks : FunD K "_marks" "Book._marks" (defArgs s_c_Book__marks) (defBody s_c_Book__marks) (defScope s_c_Book__marks) [] [] f63 _ := ⟨⟨_, _, _, _, _, _, _, _, _, _, rfl, l63, c63, .inl ⟨rfl, rfl⟩, .inl rfl⟩, k63⟩
  have bd_c_Book__marks : Binds K _ ["self"] [] := (fun_mk (x := "_marks") (qual := "Book._marks") (st := s_c_Book__marks) l63 c63 k63).binds (ps := ["self"]) (fun _ _ _ _ _ _ us hl => match us, hl with | [_], _ => rfl)
  have F_c_Book_contains : FunD K "__contains__" "Book.__contains__" (defArgs s_c_Book_contains) (defBody s_c_Book_contains) (defScope s_c_Book_contains) [] [] f64 _ := ⟨⟨_, _, _, _, _, _, _, _, _, _, rfl, l64, c64, .inl ⟨rfl, rfl⟩, .inl rfl⟩, k64⟩
  have bd_c_Book_contains : Binds K _ ["self", "mark"] [] := (fun_mk (x := "__contains__") (qual := "Book.__contains__") (st := s_c_Book_contains) l64 c64 k64).binds (ps := ["self", "mark"]) (fun _ _ _ _ _ _ us hl => match us, hl with | [_, _], _ => rfl)
  have gL : ∃ t, mg "_LETTERS" = some (.str abc t) := ⟨_, PySem.W.mg_of X G xL⟩
  have gM : ∃ t, mg "_MOST_LETTERS" = some (.int 6 t) := ⟨_, PySem.W.mg_of X G xM⟩
  have gMF : ∃ t, mg "MOST_FINDS" = some (.int 12 t) := ⟨_, PySem.W.mg_of X G xgMF⟩
  have gMN : ∃ (d : Addr) (es : Array DictEntry) (n : Nat) (kvs : List (Str × Value)), mg "_MANY_NAMES" = some (.ref d) ∧ KDict K w d es n ∧ (∀ z, PySem.W.nsIn K d z = some (lookE kvs z)) ∧ ManyOk kvs := ⟨dMN, eMN.toArray, nMN, _, PySem.W.mg_of X G xMN, ⟨yMN, by simpa using uMN, wMN⟩, ns_of eMN _ yMN vMN, many_mk t1MN t2MN t3MN⟩
  have gMX : ∃ t, mg "MOST_FACTS" = some (.int 30 t) := ⟨_, PySem.W.mg_of X G xgMX⟩
  have gN : ∃ c, mg "_NEVER" = some (.ref c) ∧ SqT K (fun _ => none) c [.str "never"] := ⟨cN, PySem.W.mg_of X G xN, .inr ⟨_, _, nN, yN, rfl, rfl, by rw [List.size_toArray, ← vN.length]; decide, by simpa using vN⟩⟩
  have gME : ∃ (d : Addr) (es : Array DictEntry) (n : Nat) (kvs : List (Str × Value)), mg "_MANY_ELDERS" = some (.ref d) ∧ KDict K w d es n ∧ (∀ z, PySem.W.nsIn K d z = some (lookE kvs z)) ∧ ManyEOk kvs := ⟨dME, eME.toArray, nME, _, PySem.W.mg_of X G xME, ⟨yME, by simpa using uME, wME⟩, ns_of eME _ yME vME, manyE_mk t0ME t1ME t2ME t3ME t4ME t5ME t6ME t7ME t8ME t9ME t10ME t11ME⟩
  have gRU : ∃ c, mg "RULES" = some (.ref c) ∧ Da K (fun _ => none) (.ref c) (.tuple (ruleNs.map .str)) := ⟨cRU, PySem.W.mg_of X G xRU, .tup (.inr ⟨_, _, nRU, yRU, rfl, rfl, by rw [List.size_toArray, ← vRU.length]; decide, by simpa using vRU⟩) (.kTuple yRU rfl) (DaAll.strs ruleNs)⟩
  have gRM : ∃ c, mg "_RULES_WITH_A_MARK" = some (.ref c) ∧ SqT K (fun _ => none) c ([Str.ofString "word", Str.ofString "fact"].map V.str) := ⟨cRM, PySem.W.mg_of X G xRM, .inr ⟨_, _, nRM, yRM, rfl, rfl, by rw [List.size_toArray, ← vRM.length]; decide, by simpa using vRM⟩⟩
  have gGV : ∃ (d : Addr) (es : Array DictEntry) (n : Nat) (kvs : List (Str × Value)), mg "_GIVEN" = some (.ref d) ∧ KDict K w d es n ∧ (∀ z, PySem.W.nsIn K d z = some (lookE kvs z)) ∧ (∀ f, mg "_is_word" = some (.ref f) → lookE kvs "word" = some (.ref f)) ∧ (∀ f, mg "_is_of_fact" = some (.ref f) → lookE kvs "fact" = some (.ref f)) ∧ lookE kvs "apart" = none ∧ lookE kvs "across" = none := ⟨dGV, eGV.toArray, nGV, _, PySem.W.mg_of X G xGV, ⟨yGV, by simpa using uGV, wGV⟩, ns_of eGV _ yGV vGV, (fun f hf => by cases hf.symm.trans (PySem.W.mg_of X G a24); rw [lookE, if_neg (by decide +kernel), lookE, if_neg (by decide +kernel), lookE, if_pos rfl]), (fun f hf => by cases hf.symm.trans (PySem.W.mg_of X G a25); rw [lookE, if_neg (by decide +kernel), lookE, if_neg (by decide +kernel), lookE, if_neg (by decide +kernel), lookE, if_pos rfl]), (by rw [lookE, if_neg (by decide +kernel), lookE, if_neg (by decide +kernel), lookE, if_neg (by decide +kernel), lookE, if_neg (by decide +kernel), lookE]), (by rw [lookE, if_neg (by decide +kernel), lookE, if_neg (by decide +kernel), lookE, if_neg (by decide +kernel), lookE, if_neg (by decide +kernel), lookE])⟩
  have gDR : ∃ (d : Addr) (es : Array DictEntry) (n : Nat) (kvs : List (Str × Value)), mg "_DRAWN" = some (.ref d) ∧ KDict K w d es n ∧ (∀ z, PySem.W.nsIn K d z = some (lookE kvs z)) ∧ (∀ f, mg "_is_apart" = some (.ref f) → lookE kvs "apart" = some (.ref f)) ∧ (∀ f, mg "_is_across" = some (.ref f) → lookE kvs "across" = some (.ref f)) := ⟨dDR, eDR.toArray, nDR, _, PySem.W.mg_of X G xDR, ⟨yDR, by simpa using uDR, wDR⟩, ns_of eDR _ yDR vDR, (fun f hf => by cases hf.symm.trans (PySem.W.mg_of X G a30); rw [lookE, if_neg (by decide +kernel), lookE, if_neg (by decide +kernel), lookE, if_neg (by decide +kernel), lookE, if_pos rfl]), (fun f hf => by cases hf.symm.trans (PySem.W.mg_of X G a31); rw [lookE, if_neg (by decide +kernel), lookE, if_neg (by decide +kernel), lookE, if_neg (by decide +kernel), lookE, if_neg (by decide +kernel), lookE, if_pos rfl])⟩
  have gMW : ∃ t, mg "MOST_WORDS" = some (.int 40 t) := ⟨_, PySem.W.mg_of X G xgMW⟩
  refine ⟨PySem.W.fnOf "law" "law" (defArgs s_p_law) (defBody s_p_law) (defScope s_p_law) .none kV51 dc51 pm51 an51 cd51 ct51, fun s v => .of_eq rfl, fun base _ _ => ?_⟩
  have H_l_start := has_l_start (P := l.prog) (w := w) (base := base) Z A_l_start
  have H_l_draw := has_l_draw (P := l.prog) (w := w) (base := base) Z A_l_draw
  have H_l_pick := fun n : Bool => has_l_pick (P := l.prog) (w := w) (base := base) n Z A_l_pick (H_l_draw)
  have H_l_letters := has_l_letters (P := l.prog) (w := w) (base := base) Z A_l_letters
  have H_l_word := has_l_word (P := l.prog) (w := w) (base := base) Z A_l_word (H_l_draw) (H_l_letters)
  have H_l_shuffle := has_l_shuffle (P := l.prog) (w := w) (base := base) Z A_l_shuffle (H_l_draw)
  have H_l_names := has_l_names (P := l.prog) (w := w) (base := base) Z A_l_names (H_l_draw) (H_l_pick false) (H_l_letters) (H_l_word) (H_l_shuffle)
  have H_l_subset := has_l_subset (P := l.prog) (w := w) (base := base) Z A_l_subset (H_l_draw) (H_l_pick false)
  have H_l_lots := has_l_lots (P := l.prog) (w := w) (base := base) Z A_l_lots (H_l_shuffle) (H_l_draw) (H_l_subset)
  have H_p_is_listed := has_p_is_listed (P := l.prog) (w := w) (base := base) Z A_p_is_listed
  have H_p_is_name := fun n : Nat => has_p_is_name (P := l.prog) (w := w) (base := base) n Z gL gM A_p_is_name
  have H_p_copied := has_p_copied (P := l.prog) (w := w) (base := base) Z A_p_copied
  have H_c_InvalidFind_init : HasE l.prog w K mg base "InvalidFind" "InvalidFind.__init__" s_c_InvalidFind_init ["self", "at"] ["at", "code"] 7 (spInit1 K "InvalidFind" "at" 6) := ⟨_, _, _, E_c_InvalidFind_init, has_c_InvalidFind_init (P := l.prog) (w := w) (base := base) Z F_c_InvalidFind_init (H_p_copied)⟩
  have H_c_TooMany_init : HasE l.prog w K mg base "TooMany" "TooMany.__init__" s_c_TooMany_init ["self", "most"] ["most", "code"] 7 (spInit1 K "TooMany" "most" 6) := ⟨_, _, _, E_c_TooMany_init, has_c_TooMany_init (P := l.prog) (w := w) (base := base) Z F_c_TooMany_init (H_p_copied)⟩
  have H_p_check_finds := has_p_check_finds (P := l.prog) (w := w) (base := base) Z gMF A_p_check_finds (H_p_is_listed) (H_p_is_name 5) (H_c_InvalidFind_init) (H_c_TooMany_init)
  have H_c_InvalidWord_init : HasE l.prog w K mg base "InvalidWord" "InvalidWord.__init__" s_c_InvalidWord_init ["self", "at"] ["at", "code"] 7 (spInit1 K "InvalidWord" "at" 6) := ⟨_, _, _, E_c_InvalidWord_init, has_c_InvalidWord_init (P := l.prog) (w := w) (base := base) Z F_c_InvalidWord_init (H_p_copied)⟩
  have H_p_are_names := has_p_are_names (P := l.prog) (w := w) (base := base) Z A_p_are_names (H_p_is_name 5)
  have H_p_is_lot := has_p_is_lot (P := l.prog) (w := w) (base := base) Z A_p_is_lot (H_p_are_names)
  have H_p_is_within := has_p_is_within (P := l.prog) (w := w) (base := base) Z A_p_is_within
  have H_p_is_lot_of := has_p_is_lot_of (P := l.prog) (w := w) (base := base) Z A_p_is_lot_of (H_p_is_lot) (H_p_is_within)
  have H_p_is_word_of := has_p_is_word_of (P := l.prog) (w := w) (base := base) Z A_p_is_word_of (H_p_is_name 5) (H_p_is_lot_of)
  have H_c_DuplicateName_init : HasE l.prog w K mg base "DuplicateName" "DuplicateName.__init__" s_c_DuplicateName_init ["self", "name"] ["name", "code"] 7 (spInit1 K "DuplicateName" "name" 6) := ⟨_, _, _, E_c_DuplicateName_init, has_c_DuplicateName_init (P := l.prog) (w := w) (base := base) Z F_c_DuplicateName_init (H_p_copied)⟩
  have H_p_check_different := has_p_check_different (P := l.prog) (w := w) (base := base) Z A_p_check_different (H_c_DuplicateName_init)
  have H_c_Book_init : HasI l.prog w K mg base CB 10 ["self", "finds", "words"] (dNone K) (spBookI K mg CB) := ⟨fI, _, ds_c_Book_init, _, ⟨mkB, inB, fnB, kpB⟩, has_c_Book_init (P := l.prog) (w := w) (base := base) Z gMW B_Book F_c_Book_init (H_p_check_finds) (H_p_is_listed) (H_c_InvalidWord_init) (H_c_TooMany_init) (H_p_is_word_of) (H_p_check_different), bd_c_Book_init, vd_c_Book_init, dE_c_Book_init⟩
  have H_l_side := has_l_side (P := l.prog) (w := w) (base := base) Z A_l_side
  have H_l_both := has_l_both (P := l.prog) (w := w) (base := base) Z A_l_both
  have H_l_less := has_l_less (P := l.prog) (w := w) (base := base) Z A_l_less
  have H_l_cross := has_l_cross (P := l.prog) (w := w) (base := base) Z A_l_cross (H_l_both) (H_l_less)
  have H_l_across_due := has_l_across_due (P := l.prog) (w := w) (base := base) Z A_l_across_due (H_l_side) (H_l_cross)
  have H_l_apart_due := has_l_apart_due (P := l.prog) (w := w) (base := base) Z A_l_apart_due
  have H_p_is_fact := has_p_is_fact (P := l.prog) (w := w) (base := base) Z gMN A_p_is_fact (H_p_are_names)
  have H_p_is_marked_fact := has_p_is_marked_fact (P := l.prog) (w := w) (base := base) Z A_p_is_marked_fact (H_p_is_name 5) (H_p_is_fact)
  have H_p_names_in := has_p_names_in (P := l.prog) (w := w) (base := base) Z A_p_names_in
  have H_c_InvalidFact_init : HasE l.prog w K mg base "InvalidFact" "InvalidFact.__init__" s_c_InvalidFact_init ["self", "at"] ["at", "code"] 7 (spInit1 K "InvalidFact" "at" 6) := ⟨_, _, _, E_c_InvalidFact_init, has_c_InvalidFact_init (P := l.prog) (w := w) (base := base) Z F_c_InvalidFact_init (H_p_copied)⟩
  have H_c_UnknownFind_init : HasE l.prog w K mg base "UnknownFind" "UnknownFind.__init__" s_c_UnknownFind_init ["self", "name"] ["name", "code"] 7 (spInit1 K "UnknownFind" "name" 6) := ⟨_, _, _, E_c_UnknownFind_init, has_c_UnknownFind_init (P := l.prog) (w := w) (base := base) Z F_c_UnknownFind_init (H_p_copied)⟩
  have H_p_check_facts := has_p_check_facts (P := l.prog) (w := w) (base := base) Z gMX A_p_check_facts (H_p_is_listed) (H_p_is_marked_fact) (H_p_names_in) (H_p_check_different) (H_c_InvalidFact_init) (H_c_TooMany_init) (H_c_UnknownFind_init)
  have H_p_is_before := has_p_is_before (P := l.prog) (w := w) (base := base) Z A_p_is_before (H_p_are_names)
  have H_p_is_statement := has_p_is_statement (P := l.prog) (w := w) (base := base) Z gN A_p_is_statement (H_p_is_lot) (H_p_is_before)
  have H_p_is_number := has_p_is_number (P := l.prog) (w := w) (base := base) Z A_p_is_number
  have H_p_is_entry := has_p_is_entry (P := l.prog) (w := w) (base := base) Z gME gRU gRM A_p_is_entry (H_p_is_statement) (H_p_is_number)
  have H_c_Book__marks : HasM l.prog w K mg base CB "_marks" 1 ["self"] (spBMarks K CB) := ⟨f63, _, ⟨me63, mf63, k63⟩, has_c_Book__marks (P := l.prog) (w := w) (base := base) Z B_Book F_c_Book__marks, bd_c_Book__marks⟩
  have H_c_Book_contains : HasM l.prog w K mg base CB "__contains__" 2 ["self", "mark"] (spBHas K CB) := ⟨f64, _, ⟨me64, mf64, k64⟩, has_c_Book_contains (P := l.prog) (w := w) (base := base) Z B_Book F_c_Book_contains (H_c_Book__marks), bd_c_Book_contains⟩
  have H_c_Book_lots : HasM l.prog w K mg base CB "lots" 1 ["self"] (spBLots K CB) := ⟨f61, _, ⟨me61, mf61, k61⟩, has_c_Book_lots (P := l.prog) (w := w) (base := base) Z B_Book F_c_Book_lots, bd_c_Book_lots⟩
  have H_c_UnknownName_init : HasE l.prog w K mg base "UnknownName" "UnknownName.__init__" s_c_UnknownName_init ["self", "name"] ["name", "code"] 7 (spInit1 K "UnknownName" "name" 6) := ⟨_, _, _, E_c_UnknownName_init, has_c_UnknownName_init (P := l.prog) (w := w) (base := base) Z F_c_UnknownName_init (H_p_copied)⟩
  have H_c_Book_word : HasM l.prog w K mg base CB "word" 9 ["self", "mark"] (spBWord K CB) := ⟨f62, _, ⟨me62, mf62, k62⟩, has_c_Book_word (P := l.prog) (w := w) (base := base) Z B_Book F_c_Book_word (H_c_Book_contains) (H_c_Book_lots) (H_c_Book__marks) (H_c_UnknownName_init), bd_c_Book_word⟩
  have H_p_is_word := has_p_is_word (P := l.prog) (w := w) (base := base) Z B_Book A_p_is_word (H_c_Book_contains) (H_c_Book_word)
  have H_p_says := has_p_says (P := l.prog) (w := w) (base := base) Z A_p_says
  have H_c_Book_finds : HasM l.prog w K mg base CB "finds" 1 ["self"] (spBFindsW K CB) := ⟨f60, _, ⟨me60, mf60, k60⟩, has_c_Book_finds (P := l.prog) (w := w) (base := base) Z B_Book F_c_Book_finds, bd_c_Book_finds⟩
  have H_p_is_of_fact := has_p_is_of_fact (P := l.prog) (w := w) (base := base) Z B_Book A_p_is_of_fact (H_p_says) (H_p_is_within) (H_c_Book_finds)
  have H_p_have_lots := has_p_have_lots (P := l.prog) (w := w) (base := base) Z A_p_have_lots
  have H_p_are_befores := has_p_are_befores (P := l.prog) (w := w) (base := base) Z A_p_are_befores
  have H_p_are_apart := has_p_are_apart (P := l.prog) (w := w) (base := base) Z A_p_are_apart
  have H_p_is_apart := has_p_is_apart (P := l.prog) (w := w) (base := base) Z A_p_is_apart (H_p_have_lots) (H_p_are_befores) (H_p_are_apart)
  have H_p_overlap := has_p_overlap (P := l.prog) (w := w) (base := base) Z A_p_overlap (H_p_are_apart) (H_p_is_within)
  have H_p_have_overlap := has_p_have_overlap (P := l.prog) (w := w) (base := base) Z A_p_have_overlap (H_p_have_lots) (H_p_overlap)
  have H_p_part_of := has_p_part_of (P := l.prog) (w := w) (base := base) Z A_p_part_of
  have H_p_is_across := has_p_is_across (P := l.prog) (w := w) (base := base) Z A_p_is_across (H_p_have_overlap) (H_p_are_befores) (H_p_part_of)
  have H_p_is_right := has_p_is_right (P := l.prog) (w := w) (base := base) Z gGV gDR B_Book A_p_is_right (H_p_is_word) (H_p_is_of_fact) (H_p_is_apart) (H_p_is_across)
  have H_p_first_fault := has_p_first_fault (P := l.prog) (w := w) (base := base) Z B_Book A_p_first_fault (H_p_check_facts) (H_p_is_listed) (H_p_is_entry) (H_p_is_right) (H_c_Book_finds)
  have H_l_same := has_l_same (P := l.prog) (w := w) (base := base) Z A_l_same
  have H_p_shows := has_p_shows (P := l.prog) (w := w) (base := base) Z B_Book A_p_shows (H_p_first_fault)
  have H_p_law := has_p_law (P := l.prog) (w := w) (base := base) Z B_Book A_p_law (H_l_start) (H_l_pick true) (H_l_names) (H_l_lots) (H_c_Book_init) (H_l_across_due) (H_l_apart_due) (H_p_first_fault) (H_l_same) (H_l_draw) (H_p_shows)
  exact has_fn H_p_law hfa l51
theorem walk {l : PySem.W.OpenLaw} {q : Program} {loose : List Str} {XP : (Str → Option Value) → Heap → Prop} {YP : World → Heap → Prop} {d : DefRec} {K : Params → PySem.W.Frag} (hn : l.most = some 63) (hdf : d.params.defaults = [])
    (hY : ∀ (w : World) (h : Heap), YP w h → (K w.params).In h)
    (F : ∀ (w : World) (mg : Str → Option Value) (fa : Addr) (h : Heap), (K w.params).In h → h.Ns mainGlobals mg → mg d.name = some (.ref fa) →
      ∃ fd : FuncData, (∀ (s : Shared) (u : Value), BindsTo s fd ⟨[u], []⟩ [("_law_script", u)]) ∧ ∀ base : Heap, (K w.params).In base → base.Ns mainGlobals mg → FnOk l.prog w (K w.params) mg base CX0 15 fa fd ["_law_script"] (spLawK (K w.params))) :
    PySem.W.WalkO q loose XP YP l.row.toRowW d [] (fun f vs => PySem.call f vs) :=
  L2.walk_of (n := 63) (k := 15) (x := "_law_script") (CX := fun _ => CX0) (sp := fun w => spLawK (K w.params)) hn (by decide) hdf ⟨rfl, by decide, by decide⟩ hY F (fun _ _ a ns hl _ hS => ⟨a, ns, rfl, hS, hl, fun _ => rfl⟩) fun _ _ _ _ _ z => z
end Th
open PySem PySem.W PyProof.Rows
set_option maxRecDepth 100000 in
set_option maxHeartbeats 0 in
theorem PySem.Challenge.cw_threeorders_k17_entries_across_and_apart_holds : PySem.Challenge.rw_threeorders_k17_entries_across_and_apart.Holds := by
  w_on; o_law; k_head; (case hw => w_witness2)
  k_fill
  refine Th.walk (l := PySem.Challenge.rw_threeorders_k17_entries_across_and_apart) rfl rfl (fun w h Y => PySem.W.kIn_of Y) ?F
  case F =>
    intro w mg fa h KX G hmg
    refine' Th.all_mk KX G hmg ?a0 ?l0 ?c0 ?k0 ?a1 ?l1 ?c1 ?k1 ?a2 ?l2 ?c2 ?k2 ?a3 ?l3 ?c3 ?k3 ?a4 ?l4 ?c4 ?k4 ?a5 ?l5 ?c5 ?k5 ?a6 ?l6 ?c6 ?k6 ?a7 ?l7 ?c7 ?k7 ?a8 ?l8 ?c8 ?k8 ?a9 ?l9 ?c9 ?k9 ?a10 ?l10 ?c10 ?k10 ?a11 ?l11 ?c11 ?k11 ?a12 ?l12 ?c12 ?k12 ?a13 ?l13 ?c13 ?k13 ?a14 ?l14 ?c14 ?k14 ?a15 ?l15 ?c15 ?k15 ?a16 ?l16 ?c16 ?k16 ?a17 ?l17 ?c17 ?k17 ?a18 ?l18 ?c18 ?k18 ?a19 ?l19 ?c19 ?k19 ?a20 ?l20 ?c20 ?k20 ?a21 ?l21 ?c21 ?k21 ?a22 ?l22 ?c22 ?k22 ?a23 ?l23 ?c23 ?k23 ?a24 ?l24 ?c24 ?k24 ?a25 ?l25 ?c25 ?k25 ?a26 ?l26 ?c26 ?k26 ?a27 ?l27 ?c27 ?k27 ?a28 ?l28 ?c28 ?k28 ?a29 ?l29 ?c29 ?k29 ?a30 ?l30 ?c30 ?k30 ?a31 ?l31 ?c31 ?k31 ?a32 ?l32 ?c32 ?k32 ?a33 ?l33 ?c33 ?k33 ?a34 ?l34 ?c34 ?k34 ?a35 ?l35 ?c35 ?k35 ?a36 ?l36 ?c36 ?k36 ?a37 ?l37 ?c37 ?k37 ?a38 ?l38 ?c38 ?k38 ?a39 ?l39 ?c39 ?k39 ?a40 ?l40 ?c40 ?k40 ?a41 ?l41 ?c41 ?k41 ?a42 ?l42 ?c42 ?k42 ?a43 ?l43 ?c43 ?k43 ?a44 ?l44 ?c44 ?k44 ?a45 ?l45 ?c45 ?k45 ?a46 ?l46 ?c46 ?k46 ?a47 ?l47 ?c47 ?k47 ?a48 ?l48 ?c48 ?k48 ?a49 ?l49 ?c49 ?k49 ?a50 ?l50 ?c50 ?k50 ?a51 ?l51 ?c51 ?k51 ?z_len ?z_range ?z_int ?z_abs ?z_isinstance ?z_all ?z_any ?z_sorted ?z_set ?z_list ?z_tuple ?z_str ?z_bool ?z_enumerate ?z_min ?z_max ?ab1 ?ab2 ?a52 ?ei52 ?eo52 ?sa52 ?ex52 ?ty52 ?kC52 ?hd52 ?ga52 ?gg52 ?in52 ?ti52 ?l52 ?c52 ?k52 ?ca52 ?nf52_0 ?nf52_1 ?a53 ?ei53 ?eo53 ?sa53 ?ex53 ?ty53 ?kC53 ?hd53 ?ga53 ?gg53 ?in53 ?ti53 ?l53 ?c53 ?k53 ?ca53 ?nf53_0 ?nf53_1 ?a54 ?ei54 ?eo54 ?sa54 ?ex54 ?ty54 ?kC54 ?hd54 ?ga54 ?gg54 ?in54 ?ti54 ?l54 ?c54 ?k54 ?ca54 ?nf54_0 ?nf54_1 ?a55 ?ei55 ?eo55 ?sa55 ?ex55 ?ty55 ?kC55 ?hd55 ?ga55 ?gg55 ?in55 ?ti55 ?l55 ?c55 ?k55 ?ca55 ?nf55_0 ?nf55_1 ?a56 ?ei56 ?eo56 ?sa56 ?ex56 ?ty56 ?kC56 ?hd56 ?ga56 ?gg56 ?in56 ?ti56 ?l56 ?c56 ?k56 ?ca56 ?nf56_0 ?nf56_1 ?a57 ?ei57 ?eo57 ?sa57 ?ex57 ?ty57 ?kC57 ?hd57 ?ga57 ?gg57 ?in57 ?ti57 ?l57 ?c57 ?k57 ?ca57 ?nf57_0 ?nf57_1 ?a58 ?ei58 ?eo58 ?sa58 ?ex58 ?ty58 ?kC58 ?hd58 ?ga58 ?gg58 ?in58 ?ti58 ?l58 ?c58 ?k58 ?ca58 ?nf58_0 ?nf58_1 ?aCB ?pgB ?hdB ?poB ?saB ?mkB ?inB ?fnB ?kpB ?na_finds ?na_words ?l59 ?c59 ?k59 ?lT59 ?vT59 ?lz59 ?me60 ?mf60 ?l60 ?c60 ?k60 ?me61 ?mf61 ?l61 ?c61 ?k61 ?me62 ?mf62 ?l62 ?c62 ?k62 ?me63 ?mf63 ?l63 ?c63 ?k63 ?me64 ?mf64 ?l64 ?c64 ?k64 ?xL ?xM ?xgMF ?xMN ?yMN ?wMN ?uMN ?vMN ?xgMX ?xN ?yN ?vN ?xME ?yME ?wME ?uME ?vME ?xRU ?yRU ?vRU ?xRM ?yRM ?vRM ?xGV ?yGV ?wGV ?uGV ?vGV ?xDR ?yDR ?wDR ?uDR ?vDR ?xgMW
    (case a0 => k_is)
    (case l0 => k_is)
    (case c0 => k_is)
    (case k0 => k_is)
    (case a1 => k_is)
    (case l1 => k_is)
    (case c1 => k_is)
    (case k1 => k_is)
    (case a2 => k_is)
    (case l2 => k_is)
    (case c2 => k_is)
    (case k2 => k_is)
    (case a3 => k_is)
    (case l3 => k_is)
    (case c3 => k_is)
    (case k3 => k_is)
    (case a4 => k_is)
    (case l4 => k_is)
    (case c4 => k_is)
    (case k4 => k_is)
    (case a5 => k_is)
    (case l5 => k_is)
    (case c5 => k_is)
    (case k5 => k_is)
    (case a6 => k_is)
    (case l6 => k_is)
    (case c6 => k_is)
    (case k6 => k_is)
    (case a7 => k_is)
    (case l7 => k_is)
    (case c7 => k_is)
    (case k7 => k_is)
    (case a8 => k_is)
    (case l8 => k_is)
    (case c8 => k_is)
    (case k8 => k_is)
    (case a9 => k_is)
    (case l9 => k_is)
    (case c9 => k_is)
    (case k9 => k_is)
    (case a10 => k_is)
    (case l10 => k_is)
    (case c10 => k_is)
    (case k10 => k_is)
    (case a11 => k_is)
    (case l11 => k_is)
    (case c11 => k_is)
    (case k11 => k_is)
    (case a12 => k_is)
    (case l12 => k_is)
    (case c12 => k_is)
    (case k12 => k_is)
    (case a13 => k_is)
    (case l13 => k_is)
    (case c13 => k_is)
    (case k13 => k_is)
    (case a14 => k_is)
    (case l14 => k_is)
    (case c14 => k_is)
    (case k14 => k_is)
    (case a15 => k_is)
    (case l15 => k_is)
    (case c15 => k_is)
    (case k15 => k_is)
    (case a16 => k_is)
    (case l16 => k_is)
    (case c16 => k_is)
    (case k16 => k_is)
    (case a17 => k_is)
    (case l17 => k_is)
    (case c17 => k_is)
    (case k17 => k_is)
    (case a18 => k_is)
    (case l18 => k_is)
    (case c18 => k_is)
    (case k18 => k_is)
    (case a19 => k_is)
    (case l19 => k_is)
    (case c19 => k_is)
    (case k19 => k_is)
    (case a20 => k_is)
    (case l20 => k_is)
    (case c20 => k_is)
    (case k20 => k_is)
    (case a21 => k_is)
    (case l21 => k_is)
    (case c21 => k_is)
    (case k21 => k_is)
    (case a22 => k_is)
    (case l22 => k_is)
    (case c22 => k_is)
    (case k22 => k_is)
    (case a23 => k_is)
    (case l23 => k_is)
    (case c23 => k_is)
    (case k23 => k_is)
    (case a24 => k_is)
    (case l24 => k_is)
    (case c24 => k_is)
    (case k24 => k_is)
    (case a25 => k_is)
    (case l25 => k_is)
    (case c25 => k_is)
    (case k25 => k_is)
    (case a26 => k_is)
    (case l26 => k_is)
    (case c26 => k_is)
    (case k26 => k_is)
    (case a27 => k_is)
    (case l27 => k_is)
    (case c27 => k_is)
    (case k27 => k_is)
    (case a28 => k_is)
    (case l28 => k_is)
    (case c28 => k_is)
    (case k28 => k_is)
    (case a29 => k_is)
    (case l29 => k_is)
    (case c29 => k_is)
    (case k29 => k_is)
    (case a30 => k_is)
    (case l30 => k_is)
    (case c30 => k_is)
    (case k30 => k_is)
    (case a31 => k_is)
    (case l31 => k_is)
    (case c31 => k_is)
    (case k31 => k_is)
    (case a32 => k_is)
    (case l32 => k_is)
    (case c32 => k_is)
    (case k32 => k_is)
    (case a33 => k_is)
    (case l33 => k_is)
    (case c33 => k_is)
    (case k33 => k_is)
    (case a34 => k_is)
    (case l34 => k_is)
    (case c34 => k_is)
    (case k34 => k_is)
    (case a35 => k_is)
    (case l35 => k_is)
    (case c35 => k_is)
    (case k35 => k_is)
    (case a36 => k_is)
    (case l36 => k_is)
    (case c36 => k_is)
    (case k36 => k_is)
    (case a37 => k_is)
    (case l37 => k_is)
    (case c37 => k_is)
    (case k37 => k_is)
    (case a38 => k_is)
    (case l38 => k_is)
    (case c38 => k_is)
    (case k38 => k_is)
    (case a39 => k_is)
    (case l39 => k_is)
    (case c39 => k_is)
    (case k39 => k_is)
    (case a40 => k_is)
    (case l40 => k_is)
    (case c40 => k_is)
    (case k40 => k_is)
    (case a41 => k_is)
    (case l41 => k_is)
    (case c41 => k_is)
    (case k41 => k_is)
    (case a42 => k_is)
    (case l42 => k_is)
    (case c42 => k_is)
    (case k42 => k_is)
    (case a43 => k_is)
    (case l43 => k_is)
    (case c43 => k_is)
    (case k43 => k_is)
    (case a44 => k_is)
    (case l44 => k_is)
    (case c44 => k_is)
    (case k44 => k_is)
    (case a45 => k_is)
    (case l45 => k_is)
    (case c45 => k_is)
    (case k45 => k_is)
    (case a46 => k_is)
    (case l46 => k_is)
    (case c46 => k_is)
    (case k46 => k_is)
    (case a47 => k_is)
    (case l47 => k_is)
    (case c47 => k_is)
    (case k47 => k_is)
    (case a48 => k_is)
    (case l48 => k_is)
    (case c48 => k_is)
    (case k48 => k_is)
    (case a49 => k_is)
    (case l49 => k_is)
    (case c49 => k_is)
    (case k49 => k_is)
    (case a50 => k_is)
    (case l50 => k_is)
    (case c50 => k_is)
    (case k50 => k_is)
    (case a51 => k_is)
    (case l51 => k_is)
    (case c51 => k_is)
    (case k51 => k_is)
    (case z_len => k_is)
    (case z_range => k_is)
    (case z_int => k_is)
    (case z_abs => k_is)
    (case z_isinstance => k_is)
    (case z_all => k_is)
    (case z_any => k_is)
    (case z_sorted => k_is)
    (case z_set => k_is)
    (case z_list => k_is)
    (case z_tuple => k_is)
    (case z_str => k_is)
    (case z_bool => k_is)
    (case z_enumerate => k_is)
    (case z_min => k_is)
    (case z_max => k_is)
    (case ab1 => k_is)
    (case ab2 => k_is)
    (case a52 => k_is)
    (case ei52 => first | kernel_rfl | rfl | decide +kernel)
    (case eo52 => first | kernel_rfl | rfl | decide +kernel)
    (case sa52 => k_is)
    (case ex52 => k_is)
    (case ty52 => k_is)
    (case kC52 => k_is)
    (case hd52 => k_is)
    (case ga52 => k_is)
    (case gg52 => k_is)
    (case in52 => k_is)
    (case ti52 => k_is)
    (case l52 => k_is)
    (case c52 => k_is)
    (case k52 => k_is)
    (case ca52 => first | kernel_rfl | rfl | decide +kernel)
    (case nf52_0 => k_is)
    (case nf52_1 => k_is)
    (case a53 => k_is)
    (case ei53 => first | kernel_rfl | rfl | decide +kernel)
    (case eo53 => first | kernel_rfl | rfl | decide +kernel)
    (case sa53 => k_is)
    (case ex53 => k_is)
    (case ty53 => k_is)
    (case kC53 => k_is)
    (case hd53 => k_is)
    (case ga53 => k_is)
    (case gg53 => k_is)
    (case in53 => k_is)
    (case ti53 => k_is)
    (case l53 => k_is)
    (case c53 => k_is)
    (case k53 => k_is)
    (case ca53 => first | kernel_rfl | rfl | decide +kernel)
    (case nf53_0 => k_is)
    (case nf53_1 => k_is)
    (case a54 => k_is)
    (case ei54 => first | kernel_rfl | rfl | decide +kernel)
    (case eo54 => first | kernel_rfl | rfl | decide +kernel)
    (case sa54 => k_is)
    (case ex54 => k_is)
    (case ty54 => k_is)
    (case kC54 => k_is)
    (case hd54 => k_is)
    (case ga54 => k_is)
    (case gg54 => k_is)
    (case in54 => k_is)
    (case ti54 => k_is)
    (case l54 => k_is)
    (case c54 => k_is)
    (case k54 => k_is)
    (case ca54 => first | kernel_rfl | rfl | decide +kernel)
    (case nf54_0 => k_is)
    (case nf54_1 => k_is)
    (case a55 => k_is)
    (case ei55 => first | kernel_rfl | rfl | decide +kernel)
    (case eo55 => first | kernel_rfl | rfl | decide +kernel)
    (case sa55 => k_is)
    (case ex55 => k_is)
    (case ty55 => k_is)
    (case kC55 => k_is)
    (case hd55 => k_is)
    (case ga55 => k_is)
    (case gg55 => k_is)
    (case in55 => k_is)
    (case ti55 => k_is)
    (case l55 => k_is)
    (case c55 => k_is)
    (case k55 => k_is)
    (case ca55 => first | kernel_rfl | rfl | decide +kernel)
    (case nf55_0 => k_is)
    (case nf55_1 => k_is)
    (case a56 => k_is)
    (case ei56 => first | kernel_rfl | rfl | decide +kernel)
    (case eo56 => first | kernel_rfl | rfl | decide +kernel)
    (case sa56 => k_is)
    (case ex56 => k_is)
    (case ty56 => k_is)
    (case kC56 => k_is)
    (case hd56 => k_is)
    (case ga56 => k_is)
    (case gg56 => k_is)
    (case in56 => k_is)
    (case ti56 => k_is)
    (case l56 => k_is)
    (case c56 => k_is)
    (case k56 => k_is)
    (case ca56 => first | kernel_rfl | rfl | decide +kernel)
    (case nf56_0 => k_is)
    (case nf56_1 => k_is)
    (case a57 => k_is)
    (case ei57 => first | kernel_rfl | rfl | decide +kernel)
    (case eo57 => first | kernel_rfl | rfl | decide +kernel)
    (case sa57 => k_is)
    (case ex57 => k_is)
    (case ty57 => k_is)
    (case kC57 => k_is)
    (case hd57 => k_is)
    (case ga57 => k_is)
    (case gg57 => k_is)
    (case in57 => k_is)
    (case ti57 => k_is)
    (case l57 => k_is)
    (case c57 => k_is)
    (case k57 => k_is)
    (case ca57 => first | kernel_rfl | rfl | decide +kernel)
    (case nf57_0 => k_is)
    (case nf57_1 => k_is)
    (case a58 => k_is)
    (case ei58 => first | kernel_rfl | rfl | decide +kernel)
    (case eo58 => first | kernel_rfl | rfl | decide +kernel)
    (case sa58 => k_is)
    (case ex58 => k_is)
    (case ty58 => k_is)
    (case kC58 => k_is)
    (case hd58 => k_is)
    (case ga58 => k_is)
    (case gg58 => k_is)
    (case in58 => k_is)
    (case ti58 => k_is)
    (case l58 => k_is)
    (case c58 => k_is)
    (case k58 => k_is)
    (case ca58 => first | kernel_rfl | rfl | decide +kernel)
    (case nf58_0 => k_is)
    (case nf58_1 => k_is)
    (case aCB => k_is)
    (case pgB => first | kernel_rfl | rfl | decide +kernel)
    (case hdB => first | kernel_rfl | rfl | decide +kernel)
    (case poB => first | kernel_rfl | rfl | decide +kernel)
    (case saB => k_is)
    (case mkB => first | kernel_rfl | rfl | decide +kernel)
    (case inB => k_is)
    (case fnB => first | kernel_rfl | rfl | decide +kernel)
    (case kpB => k_is)
    (case na_finds => k_is)
    (case na_words => k_is)
    (case l59 => k_is)
    (case c59 => k_is)
    (case k59 => k_is)
    (case lT59 => k_is)
    (case vT59 => exact .cons rfl .nil)
    (case lz59 => k_is)
    (case me60 => k_is)
    (case mf60 => first | kernel_rfl | rfl | decide +kernel)
    (case l60 => k_is)
    (case c60 => k_is)
    (case k60 => k_is)
    (case me61 => k_is)
    (case mf61 => first | kernel_rfl | rfl | decide +kernel)
    (case l61 => k_is)
    (case c61 => k_is)
    (case k61 => k_is)
    (case me62 => k_is)
    (case mf62 => first | kernel_rfl | rfl | decide +kernel)
    (case l62 => k_is)
    (case c62 => k_is)
    (case k62 => k_is)
    (case me63 => k_is)
    (case mf63 => first | kernel_rfl | rfl | decide +kernel)
    (case l63 => k_is)
    (case c63 => k_is)
    (case k63 => k_is)
    (case me64 => k_is)
    (case mf64 => first | kernel_rfl | rfl | decide +kernel)
    (case l64 => k_is)
    (case c64 => k_is)
    (case k64 => k_is)
    (case xL => k_is)
    (case xM => k_is)
    (case xgMF => k_is)
    (case xMN => k_is)
    (case yMN => k_is)
    (case xgMX => k_is)
    (case xN => k_is)
    (case yN => k_is)
    (case xME => k_is)
    (case yME => k_is)
    (case xRU => k_is)
    (case yRU => k_is)
    (case xRM => k_is)
    (case yRM => k_is)
    (case xGV => k_is)
    (case yGV => k_is)
    (case xDR => k_is)
    (case yDR => k_is)
    (case xgMW => k_is)
    (case wMN => exact rfl)
    (case uMN => exact ⟨⟨_, _, rfl, rfl⟩, ⟨_, _, rfl, rfl⟩, ⟨_, _, rfl, rfl⟩, trivial⟩)
    (case vMN => exact .cons ⟨⟨_, rfl⟩, rfl⟩ (.cons ⟨⟨_, rfl⟩, rfl⟩ (.cons ⟨⟨_, rfl⟩, rfl⟩ .nil)))
    (case vN => exact .cons ⟨_, rfl⟩ .nil)
    (case wME => exact rfl)
    (case uME => exact ⟨⟨_, _, rfl, rfl⟩, ⟨_, _, rfl, rfl⟩, ⟨_, _, rfl, rfl⟩, ⟨_, _, rfl, rfl⟩, ⟨_, _, rfl, rfl⟩, ⟨_, _, rfl, rfl⟩, ⟨_, _, rfl, rfl⟩, ⟨_, _, rfl, rfl⟩, ⟨_, _, rfl, rfl⟩, ⟨_, _, rfl, rfl⟩, ⟨_, _, rfl, rfl⟩, ⟨_, _, rfl, rfl⟩, trivial⟩)
    (case vME => exact .cons ⟨⟨_, rfl⟩, rfl⟩ (.cons ⟨⟨_, rfl⟩, rfl⟩ (.cons ⟨⟨_, rfl⟩, rfl⟩ (.cons ⟨⟨_, rfl⟩, rfl⟩ (.cons ⟨⟨_, rfl⟩, rfl⟩ (.cons ⟨⟨_, rfl⟩, rfl⟩ (.cons ⟨⟨_, rfl⟩, rfl⟩ (.cons ⟨⟨_, rfl⟩, rfl⟩ (.cons ⟨⟨_, rfl⟩, rfl⟩ (.cons ⟨⟨_, rfl⟩, rfl⟩ (.cons ⟨⟨_, rfl⟩, rfl⟩ (.cons ⟨⟨_, rfl⟩, rfl⟩ (.nil)))))))))))))
    (case vRU => exact (.cons ⟨_, rfl⟩ (.cons ⟨_, rfl⟩ (.cons ⟨_, rfl⟩ (.cons ⟨_, rfl⟩ (.cons ⟨_, rfl⟩ (.cons ⟨_, rfl⟩ (.cons ⟨_, rfl⟩ (.cons ⟨_, rfl⟩ (.cons ⟨_, rfl⟩ (.cons ⟨_, rfl⟩ (.cons ⟨_, rfl⟩ (.cons ⟨_, rfl⟩ .nil)))))))))))))
    (case vRM => exact (.cons ⟨_, rfl⟩ (.cons ⟨_, rfl⟩ .nil)))
    (case wGV => exact rfl)
    (case uGV => exact ⟨⟨_, _, rfl, rfl⟩, ⟨_, _, rfl, rfl⟩, ⟨_, _, rfl, rfl⟩, ⟨_, _, rfl, rfl⟩, trivial⟩)
    (case vGV => exact .cons ⟨⟨_, rfl⟩, rfl⟩ (.cons ⟨⟨_, rfl⟩, rfl⟩ (.cons ⟨⟨_, rfl⟩, rfl⟩ (.cons ⟨⟨_, rfl⟩, rfl⟩ (.nil)))))
    (case wDR => exact rfl)
    (case uDR => exact ⟨⟨_, _, rfl, rfl⟩, ⟨_, _, rfl, rfl⟩, ⟨_, _, rfl, rfl⟩, ⟨_, _, rfl, rfl⟩, ⟨_, _, rfl, rfl⟩, ⟨_, _, rfl, rfl⟩, ⟨_, _, rfl, rfl⟩, ⟨_, _, rfl, rfl⟩, trivial⟩)
    (case vDR => exact .cons ⟨⟨_, rfl⟩, rfl⟩ (.cons ⟨⟨_, rfl⟩, rfl⟩ (.cons ⟨⟨_, rfl⟩, rfl⟩ (.cons ⟨⟨_, rfl⟩, rfl⟩ (.cons ⟨⟨_, rfl⟩, rfl⟩ (.cons ⟨⟨_, rfl⟩, rfl⟩ (.cons ⟨⟨_, rfl⟩, rfl⟩ (.cons ⟨⟨_, rfl⟩, rfl⟩ (.nil)))))))))
