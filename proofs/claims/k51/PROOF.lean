import PyProof.Rows.All
import Wide.All
import OpenK.AllK
import Wide.FinOn
import PyProof.EqAt
import PyProof.EqKinds
import PyProof.TupleCall
import HandS.Base
import HandS.Call
import HandS.List
import HandS.Set
import HandS.SetFor
import HandS.Comp
import HandS.Iter
import HandS.Text
import HandS.Ends
import HandS.Words
import HandS.WordsList
import HandS.IsInst
import HandS.Style
import HandS.TupAny
import HandS.More
import HandS.Walk
import HandS.Wide
import HandS.Codes
import HandS.ReCall
import HandS.Strs
import KE.KExcInit
import KE.KTryMore
import KE.KExcHand
import HandS.Exc
import HandS.ExcInit
import HandS.WordsExc
import HandS.HotCalls
import HandS.Lambda
import HandS.ExcField
import HandS.EndOwn
import HandS.Deep
import PyProof.P3In
import KE.GoesEnum
import HandS.Star
import PyProof.EnumMake
import KE.DatumOrd
import HandS.WideBits
import HandS.Conv
import HandS.RaiseMore
import PySem.Challenge.RW_threeorders_k51_ring_orders_judged
set_option Elab.async false
set_option linter.all false
set_option maxRecDepth 100000
set_option maxHeartbeats 8000000
/-! sets of texts: set(xs) of a list or tuple of texts, sorted of it -/
namespace L2
open PySem PySem.Spec PyProof.Rows

/-- the text that an entry of a set's table holds -/
def tagOf (v : Value) : Str := match v with | .str x _ => x | _ => Str.empty
def tagE (e : Int × Value) : Str := tagOf e.2

/-- at a stands a set whose members are the texts of l, each once; its table can be walked -/
def TxSet (P : Program) (w : World) (h : Heap) (a : Addr) (l : List Str) : Prop :=
  ∃ o es ep t, h.get? a = some o ∧ o.ExactSet ∧ o.data = .set es ep t ∧
    (∀ e ∈ es.toList, ∃ tk, e.2 = Value.str (tagE e) tk ∧ e.1 = (PySem.strKind P w).hash (tagE e)) ∧
    (es.toList.map tagE).Perm l ∧ l.Nodup ∧ es.size < scanBound ∧ t.fits es.size = true ∧ Ris t.place.toList ∧
    (w.params.followText "set-order" = true ∨ t.led = true)

section
variable {P : Program} {w : World} {h h' : Heap} {a : Addr} {l : List Str}
theorem TxSet.stay (R : TxSet P w h a l) (k : ∀ o, h.get? a = some o → h'.get? a = some o) : TxSet P w h' a l :=
  let ⟨o, es, ep, t, ho, r⟩ := R
  ⟨o, es, ep, t, k o ho, r⟩
theorem TxSet.perm {m : List Str} (R : TxSet P w h a l) (p : l.Perm m) : TxSet P w h a m :=
  let ⟨o, es, ep, t, ho, hx, hd, g, pm, nd, r⟩ := R
  ⟨o, es, ep, t, ho, hx, hd, g, pm.trans p, p.nodup_iff.mp nd, r⟩
theorem tx_elems {es : List (Int × Value)} (g : ∀ e ∈ es, ∃ tk, e.2 = Value.str (tagE e) tk ∧ e.1 = (PySem.strKind P w).hash (tagE e)) : ElemsOf (PySem.strKind P w) es := by
  intro e he
  obtain ⟨tk, h1, h2⟩ := g e he
  refine ⟨⟨tagE e, ?_, h2⟩, ?_⟩
  · rw [h1]
    exact PySem.strKind_is P w (tagE e) tk
  · rw [h1]
    rfl
theorem tx_is {es : List (Int × Value)} (g : ∀ e ∈ es, ∃ tk, e.2 = Value.str (tagE e) tk ∧ e.1 = (PySem.strKind P w).hash (tagE e)) {e : Int × Value} (he : e ∈ es) (x : Str) : (PySem.strKind P w).is x e.2 = true ↔ tagE e = x := by
  obtain ⟨tk, h1, _⟩ := g e he
  constructor
  · intro q
    rw [h1] at q
    obtain ⟨t, z⟩ := Value.isStrOf_shape (show Value.isStrOf x (Value.str (tagE e) tk) = true from q)
    injection z
  · intro q
    rw [h1, q]
    exact PySem.strKind_is P w x tk
end

section
variable {P : Program} {w : World} {A : Around} {E : Value → Shared → Prop} {s : Shared} {a : Addr} {l : List Str}

/-- the set's store, and the table's growth behind it -/
theorem tx_store {g : Bool → Sem Unit} (hg : ∀ (b : Bool) (s₁ : Shared) (Q' : Unit → Shared → Prop), Q' () s₁ → wpAny (model P w) A (g b) Q' E s₁)
    {o : Obj} {es : Array (Int × Value)} {ep : Nat} {t : SetTable} (ho : s.heap.get? a = some o) (hex : o.ExactSet) (hd : o.data = .set es ep t)
    {fs : Array (Int × Value)} {u : SetTable} {m : List Str}
    (hgood : ∀ e ∈ fs.toList, ∃ tk, e.2 = Value.str (tagE e) tk ∧ e.1 = (PySem.strKind P w).hash (tagE e)) (hp : (fs.toList.map tagE).Perm m) (hm : m.Nodup)
    (hb : fs.size < scanBound) (hf : u.fits fs.size = true) (hr : Ris u.place.toList) (hl : w.params.followText "set-order" = true ∨ u.led = true) {dum : Bool} {R : Option Bool → Shared → Prop}
    (fin : ∀ h', Heap.SameBut a s.heap h' → TxSet P w h' a m → R (some true) { s with heap := h' }) :
    wpAny (model P w) A (do
        storeSet a fs u
        if (!dum && u.tooFull) = true then do
            g (relayAll u fs (SetTable.grown fs.size)).2.2
            storeSet a (relayAll u fs (SetTable.grown fs.size)).1 (relayAll u fs (SetTable.grown fs.size)).2.1
            pure (some true)
          else pure (some true)) R E s := by
  refine wpAny_bind (wpAny_storeSet_of ho hd ?_ (fits_of_scanBound hb))
  have q1 := store_at (es' := fs) (t' := u) ho hd
  have b1 := Heap.SameBut.update s.heap a (Obj.putSet fs u)
  split
  · have c1 := relayAll_perm u fs (SetTable.grown fs.size)
    have c2 := relayAll_fits u fs (SetTable.grown fs.size)
    have c3 := relayAll_ris u fs (SetTable.grown fs.size)
    have c4 := relayAll_led u fs (SetTable.grown fs.size)
    generalize relayAll u fs (SetTable.grown fs.size) = Z at c1 c2 c3 c4 ⊢
    obtain ⟨gs, v, gave⟩ := Z
    dsimp only at c1 c2 c3 c4 ⊢
    have z1 : gs.size = fs.size := by rw [← Array.length_toList, c1.length_eq, Array.length_toList]
    have z2 : gs.size < scanBound := by rw [z1]; exact hb
    refine wpAny_bind (hg _ _ _ ?_)
    refine wpAny_bind (wpAny_storeSet_of q1 rfl ?_ (fits_of_scanBound z2))
    have q2 := store_at (es' := gs) (t' := v) q1 rfl
    refine wpAny_pure (fin _ (b1.trans (Heap.SameBut.update _ a _)) ?_)
    refine ⟨_, gs, _, v, q2, hex, rfl, fun e he => hgood e (c1.mem_iff.mp he), (c1.map tagE).trans hp, hm, z2, c2, c3, ?_⟩
    rcases hl with z | z
    · exact .inl z
    · exact .inr (c4.trans z)
  · exact wpAny_pure (fin _ b1 ⟨_, fs, _, u, q1, hex, rfl, hgood, hp, hm, hb, hf, hr, hl⟩)

/-- one text more -/
theorem tx_put {x : Str} {tk : Tok} {Q : Bool → Shared → Prop} (R : TxSet P w s.heap a l) (room : l.length + 1 < scanBound)
    (fin : ∀ h' b, Heap.SameBut a s.heap h' → TxSet P w h' a (if x ∈ l then l else x :: l) → Q b { s with heap := h' }) :
    wpAny (model P w) A (setAddHashed a (.str x tk) ((PySem.strKind P w).hash x)) Q E s := by
  obtain ⟨o, es, ep, t, ho, hex, hd, g, hp, nd, hb, hf, hr, hl⟩ := R
  have hkey : (PySem.strKind P w).is x (.str x tk) = true := PySem.strKind_is P w x tk
  have hsc : (Value.str x tk).scannable = true := rfl
  have hel := tx_elems g
  unfold setAddHashed setAddHashedIn
  refine wpAny_holding (wpAny_bind (wpAny_setState_of ho hd hf ?_))
  dsimp only
  rw [byScan_of hsc hb hel]
  simp only [↓reduceIte]
  unfold setAddByScan
  refine wpAny_bind (wpAny_bind (wpAny_rule (wpAny_bind (wpAny_setScan_of hkey ho hd hf hel ?_))))
  cases hfi : List.findIdx? (fun e => (PySem.strKind P w).is x e.2) es.toList with
  | some j =>
    dsimp only
    obtain ⟨hj, pj, _⟩ := List.findIdx?_eq_some_iff_getElem.mp hfi
    have hx : x ∈ l := hp.mem_iff.mp (List.mem_map.mpr ⟨es.toList[j], List.getElem_mem hj, (tx_is g (List.getElem_mem hj) x).mp pj⟩)
    refine wpAny_pure (wpAny_pure (fin s.heap _ (Heap.SameBut.refl a s.heap) ?_))
    rw [if_pos hx]
    exact ⟨o, es, ep, t, ho, hex, hd, g, hp, nd, hb, hf, hr, hl⟩
  | none =>
    dsimp only
    have hx : x ∉ l := fun z => by
      obtain ⟨e, he, q⟩ := List.mem_map.mp (hp.mem_iff.mpr z)
      have c := List.findIdx?_eq_none_iff.mp hfi e he
      rw [(tx_is g he x).mpr q] at c
      cases c
    have gw : ∀ (b : Bool) {s₁ : Shared} {Q' : Unit → Shared → Prop}, Q' () s₁ → wpAny (model P w) A (match b with | true => rule "set.scan.the-table-gave-way" | false => pure ()) Q' E s₁ :=
      fun b s₁ Q' q => by cases b <;> first | exact wpAny_pure q | exact wpAny_rule q
    have d1 := layNew_perm t es ((PySem.strKind P w).hash x) (.str x tk)
    have d2 := layNew_fits t es ((PySem.strKind P w).hash x) (.str x tk)
    have d3 := layNew_ris t es ((PySem.strKind P w).hash x) (.str x tk) hr
    have d4 := layNew_led t es ((PySem.strKind P w).hash x) (.str x tk)
    generalize layNew t es ((PySem.strKind P w).hash x) (.str x tk) = Z at d1 d2 d3 d4 ⊢
    obtain ⟨fs, u, dum, gave⟩ := Z
    dsimp only at d1 d2 d3 d4 ⊢
    rw [Array.toList_push] at d1
    have e1 : fs.toList.Perm (((PySem.strKind P w).hash x, Value.str x tk) :: es.toList) := d1.trans (List.perm_append_singleton _ _)
    have e2 : (fs.toList.map tagE).Perm (x :: l) := (e1.map tagE).trans (List.Perm.cons x hp)
    have good : ∀ e ∈ fs.toList, ∃ tk, e.2 = Value.str (tagE e) tk ∧ e.1 = (PySem.strKind P w).hash (tagE e) := fun e he => by
      rcases List.mem_cons.mp (e1.mem_iff.mp he) with z | z
      · rw [z]; exact ⟨tk, rfl, rfl⟩
      · exact g e z
    have e3 : (x :: l).Nodup := List.nodup_cons.mpr ⟨hx, nd⟩
    have e4 : fs.size = l.length + 1 := by rw [← Array.length_toList, ← List.length_map (f := tagE), e2.length_eq]; rfl
    have e5 : fs.size < scanBound := by rw [e4]; exact room
    have e6 : w.params.followText "set-order" = true ∨ u.led = true := by
      rcases hl with z | z
      · exact .inl z
      · exact .inr (d4.trans z)
    have last : ∀ h' b, Heap.SameBut a s.heap h' → TxSet P w h' a (x :: l) → Q b { s with heap := h' } := fun h' b sb r => fin h' b sb (by rw [if_neg hx]; exact r)
    refine wpAny_bind (gw _ ?_)
    split
    · refine wpAny_bind ?_
      rw [hashByValue_scannable 8 hsc]
      refine wpAny_pure ?_
      refine tx_store ?_ ho hex hd good e2 e3 e5 ?_ ?_ ?_ ?_
      · intro b s₁ Q' q; cases b <;> first | exact wpAny_pure q | exact wpAny_rule q
      · first | (split <;> first | exact d2 | exact SetTable.fits_plain_off d2) | exact d2
      · first | (split <;> exact d3) | exact d3
      · first | (split <;> exact e6) | exact e6
      · intro h' sb r; dsimp only; exact wpAny_pure (last h' _ sb r)
    · refine wpAny_bind (wpAny_pure ?_)
      simp only [↓reduceIte]
      refine tx_store ?_ ho hex hd good e2 e3 e5 d2 d3 e6 ?_
      · intro b s₁ Q' q; cases b <;> first | exact wpAny_pure q | exact wpAny_rule q
      · intro h' sb r; dsimp only; exact wpAny_pure (last h' _ sb r)

/-- the texts of xs, each once, as a set that took them one by one holds them -/
def once : List Str → List Str → List Str
  | acc, [] => acc
  | acc, x :: r => once (if x ∈ acc then acc else x :: acc) r
theorem once_nodup : ∀ (xs acc : List Str), acc.Nodup → (once acc xs).Nodup
  | [], _, h => h
  | x :: r, acc, h => by
    unfold once
    refine once_nodup r _ ?_
    split
    · exact h
    · exact List.nodup_cons.mpr ⟨by assumption, h⟩
theorem once_mem : ∀ (xs acc : List Str) (y : Str), y ∈ once acc xs ↔ y ∈ acc ∨ y ∈ xs
  | [], acc, y => by simp [once]
  | x :: r, acc, y => by
    unfold once
    rw [once_mem r _ y]
    split
    · rename_i hx
      constructor
      · rintro (z | z)
        · exact .inl z
        · exact .inr (List.mem_cons_of_mem _ z)
      · rintro (z | z)
        · exact .inl z
        · rcases List.mem_cons.mp z with e | z
          · exact .inl (e ▸ hx)
          · exact .inr z
    · simp only [List.mem_cons]
      constructor
      · rintro ((z | z) | z)
        · exact .inr (.inl z)
        · exact .inl z
        · exact .inr (.inr z)
      · rintro (z | z | z)
        · exact .inl (.inr z)
        · exact .inl (.inl z)
        · exact .inr z
theorem once_length : ∀ (xs acc : List Str), (once acc xs).length ≤ acc.length + xs.length
  | [], acc => by simp [once]
  | x :: r, acc => by
    unfold once
    have q := once_length r (if x ∈ acc then acc else x :: acc)
    rw [List.length_cons]
    split at q
    · rw [if_pos (by assumption)]; omega
    · rw [if_neg (by assumption)]; rw [List.length_cons] at q; omega

/-- the loop of set(xs): one text after another -/
theorem tx_loop {I : Addr} {fp wr : List Addr} {G : Array GenState → Array GenState → Prop} {n : Nat} {Pv : Nat → Value → Prop} {St : Nat → Shared → Prop} {R : Result → Shared → Prop}
    (W : WalksS P w A.in1 I fp wr G n Pv St) (S : Addr) (hSf : S ∉ fp) (xs : List Str) (hn : n = xs.length) (hval : ∀ i v, Pv i v → ∃ x t, xs[i]? = some x ∧ v = .str x t) :
    ∀ (k i : Nat) (acc : List Str) (s : Shared), n - i = k → i ≤ n → St i s → TxSet P w s.heap S acc → acc.length + k + 1 < scanBound →
      (∀ s', Moved (S :: wr) G s s' → TxSet P w s'.heap S (once acc (xs.drop i)) → R (.ok (.ret .none)) s') →
      codeAny (model P w) A (.builtin "set.update.loop" ⟨[.ref S, .ref I], []⟩) R s := by
  have nw : S ∉ wr := fun h => hSf (W.sub _ h)
  have sb : ∀ b ∈ wr, b ∈ S :: wr := fun b hb => List.mem_cons_of_mem _ hb
  intro k
  induction k with
  | zero =>
    intro i acc s hk hi hst hS _ hR
    have e : i = n := by omega
    subst e
    refine codeAny_builtin F.entry_set_update_loop ?_
    rw [Around.under_plainId F.plain_set_update_loop _]
    show wpAny _ A.in1 (pyNext (.ref I) >>= _) _ _ s
    refine wpAny_bind (W.done s _ _ hst fun s' hm => ?_)
    show wpAny _ A.in1 (ret Value.none) _ _ s'
    have q : xs.drop i = [] := List.drop_eq_nil_of_le (by omega)
    rw [q] at hR
    exact wpAny_pure (hR s' (hm.mono sb) (hS.stay fun o e => hm.heap S o nw e))
  | succ k ih =>
    intro i acc s hk hi hst hS hroom hR
    have lt : i < n := by omega
    refine codeAny_builtin F.entry_set_update_loop ?_
    rw [Around.under_plainId F.plain_set_update_loop _]
    show wpAny _ A.in1 (pyNext (.ref I) >>= _) _ _ s
    refine wpAny_bind (W.item i s _ _ lt hst fun v s' hP hst' hm => ?_)
    obtain ⟨x, t, hx, rfl⟩ := hval i v hP
    have hS1 : TxSet P w s'.heap S acc := hS.stay fun o e => hm.heap S o nw e
    show wpAny _ A.in1 (holding [Value.str x t] (setAdd S (.str x t)) >>= _) _ _ s'
    refine wpAny_bind (wpAny_holding ?_)
    unfold setAdd
    refine wpAny_holding ?_
    refine wpAny_bind ((PySem.strKind P w).pyHash (k := x) (PySem.strKind_is _ _ _ _) ?_)
    refine tx_put (s := { s' with toks := s'.toks + 1 }) hS1 (by omega) fun h' b hsb hS2 => ?_
    have ed : xs.drop i = x :: xs.drop (i + 1) := by
      have hlt : i < xs.length := by omega
      rw [List.drop_eq_getElem_cons hlt]
      have q : xs[i] = x := by
        rw [List.getElem?_eq_getElem hlt] at hx
        exact Option.some.inj hx
      rw [q]
    have hlen : (if x ∈ acc then acc else x :: acc).length ≤ acc.length + 1 := by
      split
      · omega
      · exact Nat.le_refl _
    refine wpAny_pure ⟨plainId_quiet F.plain_set_update_loop _, ih (i + 1) _ _ (by omega) lt (W.frame _ s' _ _ hst' (Nat.le_succ _) fun b hb o e => ?_) hS2 (by omega) fun s'' hm'' hS'' => ?_⟩
    · rw [hsb.2 b (fun h : b = S => hSf (by rw [← h]; exact hb))]; exact e
    · refine hR s'' (Moved.trans W.gtrans ((hm.mono sb).then_heap (Nat.le_succ _) fun b o hb e => ?_) hm'') (by rw [ed]; exact hS'')
      rw [hsb.2 b (fun h : b = S => hb (by rw [h]; exact List.mem_cons_self))]; exact e
end

/-- the set that set() has just laid -/
abbrev txNew (w : World) : Obj := { cls := .type "set", dict := none, data := .set #[] 0 (.fresh 0 0 (!w.params.followText "set-order")) }
theorem txNew_at {P : Program} {w : World} {h : Heap} {a : Addr} (ho : h.get? a = some (txNew w)) : TxSet P w h a [] :=
  ⟨_, #[], 0, _, ho, ⟨rfl, rfl, rfl⟩, rfl, (fun e he => by simp at he), (by simp), List.nodup_nil, (by decide), (by rfl), List.Pairwise.nil, by
    show _ ∨ (!w.params.followText "set-order") = true
    cases w.params.followText "set-order"
    · exact .inr rfl
    · exact .inl rfl⟩
theorem txs_at : ∀ {us : List Value} {xs : List Str}, StrsAre us xs → ∀ (i : Nat) (v : Value), us[i]? = some v → ∃ x t, xs[i]? = some x ∧ v = .str x t
  | _, _, .nil, i, v, h => by simp at h
  | _, _, .cons y t r, 0, v, h => ⟨y, t, rfl, by simpa using h.symm⟩
  | _, _, .cons y t r, i + 1, v, h => by
    simp only [List.getElem?_cons_succ] at h
    exact txs_at r i v h
section
variable {P : Program} {w : World} {A : Around} {E : Value → Shared → Prop} {s : Shared}

set_option maxRecDepth 100000 in
set_option maxHeartbeats 6400000 in
/-- set(xs), xs a tuple of texts -/
theorem tx_call_tuple {l : Addr} {items : Array Value} (xs : List Str) {Q : Value → Shared → Prop} (hh : A.handled = none) (hl : s.heap.IsTuple l items) (hit : StrsAre items.toList xs) (hb : xs.length + 1 < scanBound)
    (fin : ∀ (h' : Heap) (tk : Nat), TxSet P w h' s.heap.objs.size (once [] xs) → (∀ b o, s.heap.get? b = some o → h'.get? b = some o) → Q (.ref s.heap.objs.size) { s with heap := h', toks := tk }) :
    wpAny (model P w) A (call (.type "set") [.ref l]) Q E s := by
  have isz : items.size = xs.length := by
    have q := StrsAre.len_eq hit
    rw [Array.length_toList] at q
    exact q
  obtain ⟨c, tl, hmro⟩ := F.called_set.mro
  have hmade := F.called_set.made
  have hsub := F.called_set.sub
  refine wpAny_call (codeAny_of_tree ?_)
  show wpAny _ _ (callAny (.type "set") _) _ _ _
  refine wpAny_pure ⟨Code.quiet_builtin _ (by decide +kernel), codeAny_builtin F.entry_type_call ?_⟩
  rw [Around.under_plain (weight_type_call_type "set" [.ref l] []) rfl]
  have h1 := F.called_set.notType
  have h2 := F.called_set.canCreate
  have hct := F.typeCall_set_1 (.ref l)
  repeat (any_goals (first | assumption | wp_step))
  refine codeAny_mono (code_set_led1 (.ref l) (E := E) (Q₁ := fun obj s₁ => obj = .ref s.heap.objs.size ∧ s₁ = { s with heap := s.heap.push (txNew w) }) ⟨rfl, rfl⟩) fun r s₁ hr => ?_
  cases r with
  | error e => exact hr
  | ok fl =>
    cases fl with
    | ret obj =>
      obtain ⟨rfl, rfl⟩ := hr
      have atS : (s.heap.push (txNew w)).get? s.heap.objs.size = some (txNew w) := Heap.get?_push_size _ rfl
      have hT : Shared.TypeIs { s with heap := s.heap.push (txNew w) } (.ref s.heap.objs.size) "set" := ⟨_, atS, rfl⟩
      have hli := F.called_set.init.lookup
      have hbi := F.called_set.init.bind (.ref s.heap.objs.size)
      repeat (any_goals (first | assumption | wp_step))
      refine codeAny_mono (codeAny_call_builtin (R := wants (fun r s₂ => r = .none ∧ ∃ h' tk, s₂ = { s with heap := h', toks := tk } ∧ TxSet P w h' s.heap.objs.size (once [] xs) ∧
          (∀ b o, s.heap.get? b = some o → h'.get? b = some o)) E) F.called_set.init.plain F.entry_set_init (check_set_init_1 hT ?_)) fun r₂ s₂ hr₂ => ?_
      · obtain ⟨ol, hol, hcl, nl, hdl⟩ := hl
        obtain ⟨ocls, odict, odata, oslots⟩ := ol
        simp only at hcl hdl
        subst hcl; subst hdl
        have old : (s.heap.push (txNew w)).get? l = some { cls := .type "tuple", dict := odict, data := .seq items nl, slots := oslots } := Heap.get?_push_of_some _ hol
        have hsls := F.sub_tuple_set
        have hslf := F.sub_tuple_frozenset
        have hne : (Value.type "tuple" == Value.type "dict") = false := by decide
        have hl1 : (s.heap.push (txNew w)).IsTuple l items := ⟨_, old, rfl, nl, rfl⟩
        unfold Builtin.«set.__init__» noKeywords Builtin.Frozenset.updateFrom
        generalize hPI : pyIter = PI
        wp_walk
        subst hPI
        refine wpAny_pyIter_tuple hl1 ?_
        refine wpAny_bind (wpAny_runValue ?_)
        have lS : l < s.heap.objs.size := Heap.lt_size hol
        have hh3 : A.in1.in1.in1.handled = none := by simp [hh]
        have apart : l ≠ (s.heap.push (txNew w)).objs.size := by
          rw [Heap.size_push]; exact Nat.ne_of_lt (Nat.lt_succ_of_lt lS)
        have notfp : s.heap.objs.size ∉ [(s.heap.push (txNew w)).objs.size, l] := by
          rw [Heap.size_push]; simp only [List.mem_cons, List.mem_singleton, List.not_mem_nil, or_false, not_or]
          exact ⟨Nat.ne_of_lt (Nat.lt_succ_self _), Nat.ne_of_gt lS⟩
        have hval : ∀ (i : Nat) (v : Value), items[i]? = some v → ∃ x t, xs[i]? = some x ∧ v = .str x t := fun i v hv => txs_at hit i v (by rw [Array.getElem?_toList]; exact hv)
        have at0 : ((s.heap.push (txNew w)).push { cls := .type "tuple_iterator", data := .fields #[.ref l, .int 0 0] }).get? s.heap.objs.size = some (txNew w) := Heap.get?_push_of_some _ atS
        refine tx_loop ((Walks.tuple hh3 _ l apart items).toS) s.heap.objs.size notfp xs isz hval (items.size - 0) 0 [] _ (by omega) (Nat.zero_le _)
          ⟨⟨_, Heap.get?_push_size _ rfl, rfl, rfl⟩, (hl1.push _)⟩ (txNew_at at0) (by rw [isz]; simpa using hb) fun s' hm hS => ?_
        obtain ⟨h', g2, d', tk', os'⟩ := s'
        have eg : g2 = s.gens := hm.gens
        have ed : d' = s.drawn := hm.drawn
        have eo : os' = s.os := hm.os
        subst eg; subst ed; subst eo
        show wpAny _ _ _ _ _ _
        refine wpAny_pure ?_
        show wpAny _ _ (ret Value.none) _ _ _
        refine wpAny_pure ⟨rfl, h', tk', rfl, hS, fun b o e => ?_⟩
        have b0 : b < s.heap.objs.size := Heap.lt_size e
        have b1 : b ≠ s.heap.objs.size := Nat.ne_of_lt b0
        have b2 : b ≠ (s.heap.push (txNew w)).objs.size := by
          rw [Heap.size_push]; exact Nat.ne_of_lt (Nat.lt_succ_of_lt b0)
        exact hm.heap b o (by simp only [List.mem_cons, List.mem_singleton, List.not_mem_nil, or_false, not_or]; exact ⟨b1, b2⟩) (Heap.get?_push_of_some _ (Heap.get?_push_of_some _ e))
      · cases r₂ with
        | error e => exact hr₂
        | ok fl₂ =>
          cases fl₂ with
          | ret r =>
            obtain ⟨rfl, h', tk, rfl, hS, kp⟩ := hr₂
            repeat (any_goals (first | assumption | wp_step))
            exact fin _ _ hS kp
          | _ => exact hr₂.elim
    | _ => exact hr.elim

set_option maxRecDepth 100000 in
set_option maxHeartbeats 6400000 in
/-- set(xs), xs a list of texts -/
theorem tx_call_list {l : Addr} {items : Array Value} (xs : List Str) {Q : Value → Shared → Prop} (hh : A.handled = none) (hl : s.heap.IsList l items) (hit : StrsAre items.toList xs) (hb : xs.length + 1 < scanBound)
    (fin : ∀ (h' : Heap) (tk : Nat), TxSet P w h' s.heap.objs.size (once [] xs) → (∀ b o, s.heap.get? b = some o → h'.get? b = some o) → Q (.ref s.heap.objs.size) { s with heap := h', toks := tk }) :
    wpAny (model P w) A (call (.type "set") [.ref l]) Q E s := by
  have isz : items.size = xs.length := by
    have q := StrsAre.len_eq hit
    rw [Array.length_toList] at q
    exact q
  obtain ⟨c, tl, hmro⟩ := F.called_set.mro
  have hmade := F.called_set.made
  have hsub := F.called_set.sub
  refine wpAny_call (codeAny_of_tree ?_)
  show wpAny _ _ (callAny (.type "set") _) _ _ _
  refine wpAny_pure ⟨Code.quiet_builtin _ (by decide +kernel), codeAny_builtin F.entry_type_call ?_⟩
  rw [Around.under_plain (weight_type_call_type "set" [.ref l] []) rfl]
  have h1 := F.called_set.notType
  have h2 := F.called_set.canCreate
  have hct := F.typeCall_set_1 (.ref l)
  repeat (any_goals (first | assumption | wp_step))
  refine codeAny_mono (code_set_led1 (.ref l) (E := E) (Q₁ := fun obj s₁ => obj = .ref s.heap.objs.size ∧ s₁ = { s with heap := s.heap.push (txNew w) }) ⟨rfl, rfl⟩) fun r s₁ hr => ?_
  cases r with
  | error e => exact hr
  | ok fl =>
    cases fl with
    | ret obj =>
      obtain ⟨rfl, rfl⟩ := hr
      have atS : (s.heap.push (txNew w)).get? s.heap.objs.size = some (txNew w) := Heap.get?_push_size _ rfl
      have hT : Shared.TypeIs { s with heap := s.heap.push (txNew w) } (.ref s.heap.objs.size) "set" := ⟨_, atS, rfl⟩
      have hli := F.called_set.init.lookup
      have hbi := F.called_set.init.bind (.ref s.heap.objs.size)
      repeat (any_goals (first | assumption | wp_step))
      refine codeAny_mono (codeAny_call_builtin (R := wants (fun r s₂ => r = .none ∧ ∃ h' tk, s₂ = { s with heap := h', toks := tk } ∧ TxSet P w h' s.heap.objs.size (once [] xs) ∧
          (∀ b o, s.heap.get? b = some o → h'.get? b = some o)) E) F.called_set.init.plain F.entry_set_init (check_set_init_1 hT ?_)) fun r₂ s₂ hr₂ => ?_
      · obtain ⟨ol, hol, hcl, nl, hdl⟩ := hl
        obtain ⟨ocls, odict, odata, oslots⟩ := ol
        simp only at hcl hdl
        subst hcl; subst hdl
        have old : (s.heap.push (txNew w)).get? l = some { cls := .type "list", dict := odict, data := .seq items nl, slots := oslots } := Heap.get?_push_of_some _ hol
        have hsls := F.sub_list_set
        have hslf := F.sub_list_frozenset
        have hne : (Value.type "list" == Value.type "dict") = false := by decide
        have hl1 : (s.heap.push (txNew w)).IsList l items := ⟨_, old, rfl, nl, rfl⟩
        unfold Builtin.«set.__init__» noKeywords Builtin.Frozenset.updateFrom
        generalize hPI : pyIter = PI
        wp_walk
        subst hPI
        refine wpAny_pyIter_list hl1 ?_
        refine wpAny_bind (wpAny_runValue ?_)
        have lS : l < s.heap.objs.size := Heap.lt_size hol
        have hh3 : A.in1.in1.in1.handled = none := by simp [hh]
        have apart : l ≠ (s.heap.push (txNew w)).objs.size := by
          rw [Heap.size_push]; exact Nat.ne_of_lt (Nat.lt_succ_of_lt lS)
        have notfp : s.heap.objs.size ∉ [(s.heap.push (txNew w)).objs.size, l] := by
          rw [Heap.size_push]; simp only [List.mem_cons, List.mem_singleton, List.not_mem_nil, or_false, not_or]
          exact ⟨Nat.ne_of_lt (Nat.lt_succ_self _), Nat.ne_of_gt lS⟩
        have hval : ∀ (i : Nat) (v : Value), items[i]? = some v → ∃ x t, xs[i]? = some x ∧ v = .str x t := fun i v hv => txs_at hit i v (by rw [Array.getElem?_toList]; exact hv)
        have at0 : ((s.heap.push (txNew w)).push { cls := .type "list_iterator", data := .fields #[.ref l, .int 0 0] }).get? s.heap.objs.size = some (txNew w) := Heap.get?_push_of_some _ atS
        refine tx_loop ((Walks.list hh3 _ l apart items).toS) s.heap.objs.size notfp xs isz hval (items.size - 0) 0 [] _ (by omega) (Nat.zero_le _)
          ⟨⟨_, Heap.get?_push_size _ rfl, rfl, rfl⟩, (hl1.push _)⟩ (txNew_at at0) (by rw [isz]; simpa using hb) fun s' hm hS => ?_
        obtain ⟨h', g2, d', tk', os'⟩ := s'
        have eg : g2 = s.gens := hm.gens
        have ed : d' = s.drawn := hm.drawn
        have eo : os' = s.os := hm.os
        subst eg; subst ed; subst eo
        show wpAny _ _ _ _ _ _
        refine wpAny_pure ?_
        show wpAny _ _ (ret Value.none) _ _ _
        refine wpAny_pure ⟨rfl, h', tk', rfl, hS, fun b o e => ?_⟩
        have b0 : b < s.heap.objs.size := Heap.lt_size e
        have b1 : b ≠ s.heap.objs.size := Nat.ne_of_lt b0
        have b2 : b ≠ (s.heap.push (txNew w)).objs.size := by
          rw [Heap.size_push]; exact Nat.ne_of_lt (Nat.lt_succ_of_lt b0)
        exact hm.heap b o (by simp only [List.mem_cons, List.mem_singleton, List.not_mem_nil, or_false, not_or]; exact ⟨b1, b2⟩) (Heap.get?_push_of_some _ (Heap.get?_push_of_some _ e))
      · cases r₂ with
        | error e => exact hr₂
        | ok fl₂ =>
          cases fl₂ with
          | ret r =>
            obtain ⟨rfl, h', tk, rfl, hS, kp⟩ := hr₂
            repeat (any_goals (first | assumption | wp_step))
            exact fin _ _ hS kp
          | _ => exact hr₂.elim
    | _ => exact hr.elim

theorem txs_of : ∀ (l : List Value), (∀ v ∈ l, ∃ tk, v = Value.str (tagOf v) tk) → StrsAre l (l.map tagOf)
  | [], _ => .nil
  | v :: l, h => by
    obtain ⟨tk, e⟩ := h v List.mem_cons_self
    rw [List.map_cons]
    generalize tagOf v = x at e ⊢
    subst e
    exact .cons x tk (txs_of l fun u hu => h u (List.mem_cons_of_mem _ hu))

/-- sorted(a set of texts) -/
theorem tx_sorted {a : Addr} {l : List Str} {Q : Value → Shared → Prop} (R : TxSet P w s.heap a l) (hh : A.handled = none) (h64 : l.length < 64)
    (fin : ∀ s' p (out : Array Value) (c : Nat) (ys : List Str), (∀ b o, s.heap.get? b = some o → s'.heap.get? b = some o) → s'.gens = s.gens → s'.os = s.os → s.heap.objs.size ≤ p →
      s'.heap.get? p = some (seqObj "list" out c) → StrsAre out.toList ys → ys.Perm l → sortedS ys = true → Q (.ref p) s') :
    wpAny (model P w) A (call (.builtin "sorted") [.ref a]) Q E s := by
  obtain ⟨o, es, ep, t, ho, hex, hd, g, hp, nd, hb, hf, hr, hl⟩ := R
  refine Calls.call_function_entry kind_sorted plain_sorted entry_sorted (args_sorted1 _) ?_
  unfold Builtin.«sorted»
  refine wpAny_bind (m := checkCount "sorted" 1 1 _) (wpAny_pure ?_)
  refine wpAny_bind (collect_set (A := A.in1) hh ⟨o, ho, hex.1, hd⟩ hf hb hr hl fun s1 vs k1 hz g1 o1 pm => ?_)
  have hS : StrsAre vs (vs.map tagOf) := txs_of vs fun v hv => by
    obtain ⟨e, he, q⟩ := List.mem_map.mp (pm.mem_iff.mp hv)
    obtain ⟨tk, h1, _⟩ := g e he
    rw [← q]
    exact ⟨tk, h1⟩
  have pk : (vs.map tagOf).Perm l := by
    have q := pm.map tagOf
    rw [List.map_map] at q
    exact q.trans hp
  have hvl : vs.length = l.length := by rw [← pk.length_eq, List.length_map]
  refine wpAny_bind (wpAny_newList ?_ (by rw [hvl, sizeLine_eq]; omega))
  have hoL : (s1.heap.push (seqObj "list" vs.toArray 0)).get? s1.heap.objs.size = some (seqObj "list" vs.toArray 0) := Heap.get?_push_size _ rfl
  refine wpAny_bind (wpAny_holding (wpAny_call_entry slot_list_sort ⟨_, hoL, rfl⟩ entry_list_sort
    (list_sort_treeK strKind_oneLt hoL hS.keysOf (fun v₁ v₂ rest e => keyKind_strs (by rw [← e]; exact hS)) (by rw [hvl]; exact h64) fun st' a1 a2 => ⟨_, rfl, ?_⟩) (args_list_sort _)))
  obtain ⟨ys, b1, b2, b3⟩ := sorted_out_str hS a1 a2
  obtain ⟨c, hc⟩ := sortedHeap_at (vs := vs) (out := (arrOf st').map (·.2)) hoL
  refine wpAny_pure ⟨_, rfl, fin _ s1.heap.objs.size _ c ys (fun b u e => ?_) g1 o1 hz hc b1 (b2.trans pk) b3⟩
  have q := k1 b u e
  have hlt := Heap.lt_size q
  show (sortedHeap (s1.heap.push (seqObj "list" vs.toArray 0)) s1.heap.objs.size vs _).get? b = some u
  rw [sortedHeap_old (Nat.ne_of_lt hlt) (by rw [size_push']; exact Nat.lt_succ_of_lt hlt)]
  exact Heap.get?_push_of_some _ q
end

end L2
namespace L2
open PySem PySem.Spec PyProof.Rows
/-! over the abstract heap -/
def SetS (P : Program) (w : World) (a : Addr) (l : List Str) : HO := .ext fun h => TxSet P w h a l
section
variable {X : Cx}
def rSetS (X : Cx) : List V → Hp → VK → Prop := fun vs H Q => ∃ (a : Addr) (xs : List Str), vs = [V.ref a] ∧ (SqL X.K H a (xs.map V.str) ∨ SqT X.K H a (xs.map V.str)) ∧ xs.length + 1 < scanBound ∧
  ∀ p, H p = none → Q (.ref p) (upd H p (SetS X.prog X.w p (once [] xs)))
theorem cr_setS (hc : X.calm = true) : CallR X (.type "set") (rSetS X) := by
  intro pins s σ H vs us Q I r h
  obtain ⟨a, xs, rfl, hs, hb, q⟩ := h
  rw [Vals.ref1 r]
  have key : ∀ (h' : Heap) (tk : Nat), TxSet X.prog X.w h' s.heap.objs.size (once [] xs) → (∀ b o, s.heap.get? b = some o → h'.get? b = some o) →
      EP X pins σ Q (.ref s.heap.objs.size) { s with heap := h', toks := tk } := fun h' tk R k => by
    have hn : H s.heap.objs.size = none := I.hok.fresh (Nat.le_refl _)
    refine ⟨.ref _, _, I.laid (t' := tk) k (Nat.le_refl _) ?_, rfl, q _ hn⟩
    refine ⟨R, ?_, fun h1 h2 z kk => z.stay kk⟩
    obtain ⟨o, _, _, _, ho, _⟩ := R
    exact ⟨o, ho⟩
  rcases hs with hs | hs
  · obtain ⟨its, rv, hl, _⟩ := I.list hs
    exact tx_call_list xs (I.ok.hd hc) hl.isList rv.strs hb key
  · obtain ⟨its, rv, hl, _⟩ := I.tuple hs
    exact tx_call_tuple xs (I.ok.hd hc) (show s.heap.IsTuple a its.toArray from hl) rv.strs hb key
def rSortedSetS (X : Cx) : List V → Hp → VK → Prop := fun vs H Q => ∃ (a : Addr) (l : List Str), vs = [V.ref a] ∧ H a = some (SetS X.prog X.w a l) ∧ l.length < 64 ∧
  ∀ (ys : List Str) (p : Addr), ys.Perm l → sortedS ys = true → H p = none → Q (.ref p) (upd H p (.lst (ys.map V.str)))
theorem cr_sortedSetS (hc : X.calm = true) : CallR X (.builtin "sorted") (rSortedSetS X) := by
  intro pins s σ H vs us Q I r h
  obtain ⟨a, l, rfl, ha, h64, q⟩ := h
  have R : TxSet X.prog X.w s.heap a l := (I.hok a _ ha).1
  rw [Vals.ref1 r]
  refine tx_sorted R (I.ok.hd hc) h64 fun s' p out c ys k g o hp hg hi hs hm => ?_
  have hlen : (ys.map V.str).length ≤ sizeLine := by rw [List.length_map, hs.length_eq, sizeLine_eq]; omega
  have hn : H p = none := I.hok.fresh hp
  have J : Inv X pins σ (upd H p (.lst (ys.map V.str))) { s with heap := s'.heap, gens := s'.gens, drawn := s'.drawn, toks := s'.toks } :=
    I.call (ch := []) (Un.laid k hp hn) (I.hok.laid k hp ⟨hlen, out.toList, c, vals_of_strs hi, hg⟩) (by rw [g]; exact I.bare) (fun _ z => nomatch z)
  have e : s' = { s with heap := s'.heap, gens := s'.gens, drawn := s'.drawn, toks := s'.toks } := by
    cases s'
    cases s
    cases o
    rfl
  rw [e]
  exact ⟨.ref p, _, J, rfl, q ys p hs hm hn⟩
end
end L2
/-! what all the laws' proofs share: the list that draws, data, names -/
namespace L2
open PySem PySem.Spec PyProof.Rows
section
variable {X : Cx} {CX : CXT} {k : Nat} {f : Addr} {fd : FuncData} {ps ks : List Str} {sp : Sp} {E : XK} {x : Str} {p pos : Pos} {kws : List Keyword} {tk : TA} {g : List Value → List Value → List Value} {gV : List V → List V → List V}
/-- f(k = v, ..), no argument by place -/
theorem pe_callK0 (F : FnOk X.prog X.w X.K X.mg X.base CX k f fd ps sp) (hr : Room k X.A) (hg : Gl X x) (hm : X.mg x = some (.ref f)) (hk : PySem.W.keepIn X.K (.ref f) = true) (hb : KBinds X.K fd ps ks g gV) (hx : Passes CX X E)
    (hkw : PK X kws tk) (hall : (backToKw pos (keywordEach kws X.env)).all (·.1.isSome) = true := by rfl) (hks : (backToKw pos (keywordEach kws X.env)).filterMap (·.1) = ks := by rfl)
    (hdb : (x == ("__debug__" : Str)) = false := by decide) (hpl : ((backTo pos (starEach [] X.env)).any (·.1) || (backToKw pos (keywordEach kws X.env)).any (·.1.isNone)) = false := by rfl) :
    PE X (.Call (.Name x p) [] kws pos) (tCallK sp gV E tNil tk) := by
  refine ⟨fun pins s σ H Q I h => ?_⟩
  refine wpAny_Call_Name_kw (ld_glob I hg hm ?_ hdb)
  refine PySem.W.callWith_KW0 (h₀ := X.base) I.ok.mod.kin hk hall ?_ hpl
  refine thn (hkw.run pos pins s σ H _ I h) fun ws s2 ⟨zs, H2, I2, rz, q2⟩ => ⟨I2.kIn, ?_⟩
  rw [hks]
  exact run_fnk (us := []) (vs := []) F hr hb hx I2 .nil rz q2
end
end L2

namespace Th
open PySem PySem.Spec PyProof.Rows L2

/-! ### heaps: what stands, but for one list -/
def hid (p : Addr) (H : Hp) : Hp := fun a => if a = p then none else H a
theorem hid_ne {p a : Addr} {H : Hp} (h : a ≠ p) : hid p H a = H a := if_neg h
theorem hid_self {p : Addr} {H : Hp} : hid p H p = none := if_pos rfl
theorem hid_some {p a : Addr} {H : Hp} {o : HO} (h : hid p H a = some o) : a ≠ p ∧ H a = some o := by
  by_cases e : a = p
  · subst e
    rw [hid_self] at h
    cases h
  · rw [hid_ne e] at h
    exact ⟨e, h⟩
theorem hid_same {p : Addr} {H : Hp} : Same (hid p H) H := fun a o h => (hid_some h).2
theorem same_new {H : Hp} {p : Addr} {o : HO} (h : H p = none) : Same H (upd H p o) := fun b x e => by
  rw [upd_ne (ne_of_none e h)]
  exact e
theorem same_mut {H H' : Hp} {q : Addr} {o : HO} (e : Same H H') (h : H q = none) : Same H (upd H' q o) := fun a u ha => by
  rw [upd_ne (ne_of_none ha h)]
  exact e a u ha

/-- the list that draws: where it stands, where its script stands, the script -/
structure DS where
  p : Addr
  l : Addr
  ns : List Int
structure Drw (D : DS) (H : Hp) : Prop where
  ne : D.l ≠ D.p
  sc : H D.l = some (.lst (D.ns.map V.int))
  few : D.ns.length ≤ 63
  st : ∃ i v m c : Int, H D.p = some (.lst [.ref D.l, .int i, .int v, .int m, .int c]) ∧ 0 ≤ i ∧ 0 ≤ v ∧ 0 ≤ m ∧ m < 2147483648 ∧ 0 ≤ c
theorem Drw.new {D : DS} {H : Hp} {q : Addr} {o : HO} (d : Drw D H) (h : H q = none) : Drw D (upd H q o) := by
  obtain ⟨ne, sc, few, i, v, m, c, st, r⟩ := d
  exact ⟨ne, by rw [upd_ne (ne_of_none sc h)]; exact sc, few, i, v, m, c, by rw [upd_ne (ne_of_none st h)]; exact st, r⟩
theorem Drw.at {D : DS} {H : Hp} (d : Drw D H) : ∃ o, H D.p = some o := by
  obtain ⟨_, _, _, i, v, m, c, st, _⟩ := d
  exact ⟨_, st⟩
structure Go (D : DS) (H H' : Hp) : Prop where
  sm : Same (hid D.p H) (hid D.p H')
  st : Drw D H'
theorem Go.refl {D : DS} {H : Hp} (d : Drw D H) : Go D H H := ⟨Same.refl _, d⟩
theorem Go.trans {D : DS} {H H1 H2 : Hp} (a : Go D H H1) (b : Go D H1 H2) : Go D H H2 := ⟨a.sm.trans b.sm, b.st⟩
theorem Go.of {D : DS} {H H' : Hp} (d : Drw D H) (s : Same H H') : Go D H H' := by
  refine ⟨fun a o h => ?_, ?_⟩
  · obtain ⟨e, h⟩ := hid_some h
    rw [hid_ne e]
    exact s a o h
  · obtain ⟨ne, sc, few, i, v, m, c, st, r⟩ := d
    exact ⟨ne, s _ _ sc, few, i, v, m, c, s _ _ st, r⟩
theorem Go.new {D : DS} {H H' : Hp} {q : Addr} {o : HO} (g : Go D H H') (h : H' q = none) : Go D H (upd H' q o) := g.trans (.of g.st (same_new h))
/-- a thing that did not stand ahead may change -/
theorem Go.mut {D : DS} {H H' : Hp} {q : Addr} {o : HO} (g : Go D H H') (d : Drw D H) (h : H q = none) : Go D H (upd H' q o) := by
  have np : q ≠ D.p := fun e => by
    obtain ⟨u, hu⟩ := d.at
    rw [← e, h] at hu
    cases hu
  refine ⟨fun a u ha => ?_, ?_⟩
  · obtain ⟨e, ha'⟩ := hid_some ha
    have q1 := g.sm a u ha
    rw [hid_ne e] at q1 ⊢
    rw [upd_ne (ne_of_none ha' h)]
    exact q1
  · obtain ⟨ne, sc, few, i, v, m, c, st, r⟩ := g.st
    exact ⟨ne, by rw [upd_ne (ne_of_none d.sc h)]; exact sc, few, i, v, m, c, by rw [upd_ne np.symm]; exact st, r⟩
theorem Go.free {D : DS} {H H' : Hp} {q : Addr} (g : Go D H H') (d : Drw D H) (h : H' q = none) : H q = none := by
  cases e : H q with
  | none => rfl
  | some o =>
    by_cases z : q = D.p
    · obtain ⟨u, hu⟩ := g.st.at
      rw [← z, h] at hu
      cases hu
    · have q1 := g.sm q o (by rw [hid_ne z]; exact e)
      rw [hid_ne z, h] at q1
      cases q1
theorem Go.old {D : DS} {H H' : Hp} {q : Addr} {o : HO} (g : Go D H H') (z : q ≠ D.p) (h : H q = some o) : H' q = some o := by
  have q1 := g.sm q o (by rw [hid_ne z]; exact h)
  rw [hid_ne z] at q1
  exact q1
theorem Drw.ne_new {D : DS} {H : Hp} {q : Addr} (d : Drw D H) (h : H q = none) : q ≠ D.p := fun e => by
  obtain ⟨u, hu⟩ := d.at
  rw [← e, h] at hu
  cases hu

/-! ### data -/
mutual
inductive Da (K : PySem.W.Frag) (H : Hp) : V → PyData → Prop
  | non : Da K H .non .none
  | bl (b : Bool) : Da K H (.bl b) (.bool b)
  | int (i : Int) : Da K H (.int i) (.int i)
  | str (x : Str) : Da K H (.str x) (.str x)
  | lst {a : Addr} {xs : List V} {ds : List PyData} : SqL K H a xs → TyX K H (.ref a) (.type "list") → DaAll K H xs ds → Da K H (.ref a) (.list ds)
  | tup {a : Addr} {xs : List V} {ds : List PyData} : SqT K H a xs → TyX K H (.ref a) (.type "tuple") → DaAll K H xs ds → Da K H (.ref a) (.tuple ds)
inductive DaAll (K : PySem.W.Frag) (H : Hp) : List V → List PyData → Prop
  | nil : DaAll K H [] []
  | cons {v : V} {vs : List V} {d : PyData} {ds : List PyData} : Da K H v d → DaAll K H vs ds → DaAll K H (v :: vs) (d :: ds)
end
theorem same_rd {H H' : Hp} {a : Addr} {u : HO} (e : Same H H') (h : Rd H a u) : Rd H' a u := by
  rcases h with h | ⟨o, h⟩
  · exact .inl (e a _ h)
  · exact .inr ⟨o, e a _ h⟩
theorem same_t {K : PySem.W.Frag} {H H' : Hp} {a : Addr} {xs : List V} (e : Same H H') (h : SqT K H a xs) : SqT K H' a xs := by
  rcases h with h | h
  · exact .inl (same_rd e h)
  · exact .inr h
theorem ty_same {K : PySem.W.Frag} {H H' : Hp} {v : V} {t : Value} (e : Same H H') (h : TyX K H v t) : TyX K H' v t := by
  cases h with
  | base b =>
    refine .base ?_
    cases b with
    | non => exact .non
    | bl x => exact .bl x
    | int i => exact .int i
    | str x => exact .str x
    | flt x => exact .flt x
    | lst h => exact .lst (e _ _ h)
    | frz h => exact .frz (e _ _ h)
    | tup h => exact .tup (e _ _ h)
    | dK h => exact .dK (e _ _ h)
    | dT h => exact .dT (e _ _ h)
    | ins h cl ha hn htk hm => exact .ins (e _ _ h) cl ha hn htk hm
  | byt b => exact .byt b
  | set h => exact .set (e _ _ h)
  | kList h c => exact .kList h c
  | kTuple h c => exact .kTuple h c
  | kDict h c => exact .kDict h c
  | fTuple h => exact .fTuple (e _ _ h)
  | fDict h => exact .fDict (e _ _ h)
section
variable {K : PySem.W.Frag} {H H' : Hp}
mutual
theorem Da.mono (e : Same H H') : ∀ (d : PyData) (v : V), Da K H v d → Da K H' v d
  | .none, _, h => by
    cases h
    exact .non
  | .bool b, _, h => by
    cases h
    exact .bl b
  | .int i, _, h => by
    cases h
    exact .int i
  | .str x, _, h => by
    cases h
    exact .str x
  | .list ds, _, h => by
    cases h with
    | lst hs ht ha => exact .lst (e.seq hs) (ty_same e ht) (DaAll.mono e ds _ ha)
  | .tuple ds, _, h => by
    cases h with
    | tup hs ht ha => exact .tup (same_t e hs) (ty_same e ht) (DaAll.mono e ds _ ha)
  | .dict _, _, h => by cases h
theorem DaAll.mono (e : Same H H') : ∀ (ds : List PyData) (vs : List V), DaAll K H vs ds → DaAll K H' vs ds
  | [], _, h => by
    cases h
    exact .nil
  | d :: ds, _, h => by
    cases h with
    | cons h1 h2 => exact .cons (Da.mono e d _ h1) (DaAll.mono e ds _ h2)
end
mutual
theorem Da.dp : ∀ (d : PyData) (v : V), Da K H v d → Dp K H v d
  | .none, _, h => by
    cases h
    exact .non
  | .bool b, _, h => by
    cases h
    exact .bl b
  | .int i, _, h => by
    cases h
    exact .int i
  | .str x, _, h => by
    cases h
    exact .str x
  | .list ds, _, h => by
    cases h with
    | lst hs ht ha => exact .lst hs (DaAll.dp ds _ ha)
  | .tuple ds, _, h => by
    cases h with
    | tup hs ht ha => exact .tup hs (DaAll.dp ds _ ha)
  | .dict _, _, h => by cases h
theorem DaAll.dp : ∀ (ds : List PyData) (vs : List V), DaAll K H vs ds → DpAll K H vs ds
  | [], _, h => by
    cases h
    exact .nil
  | d :: ds, _, h => by
    cases h with
    | cons h1 h2 => exact .cons (Da.dp d _ h1) (DaAll.dp ds _ h2)
end
theorem Da.to (h : Da K H v d) (e : Same H H') : Da K H' v d := Da.mono e d v h
theorem DaAll.to (h : DaAll K H vs ds) (e : Same H H') : DaAll K H' vs ds := DaAll.mono e ds vs h
theorem DaAll.len : ∀ {vs : List V} {ds : List PyData}, DaAll K H vs ds → vs.length = ds.length
  | _, _, .nil => rfl
  | _, _, .cons _ r => congrArg Nat.succ r.len
theorem DaAll.at : ∀ {vs : List V} {ds : List PyData} {i : Nat} {v : V}, DaAll K H vs ds → vs[i]? = some v → ∃ d, ds[i]? = some d ∧ Da K H v d
  | _, _, _, _, .nil, h => by simp at h
  | _, _, 0, v, .cons h _, e => ⟨_, rfl, by simp at e; rw [← e]; exact h⟩
  | _, _, i + 1, v, .cons _ r, e => by
    simp only [List.getElem?_cons_succ] at e
    obtain ⟨d, h1, h2⟩ := r.at e
    exact ⟨d, by simpa using h1, h2⟩
theorem DaAll.at' {vs : List V} {ds : List PyData} {i : Nat} {d : PyData} (h : DaAll K H vs ds) (e : ds[i]? = some d) : ∃ v, vs[i]? = some v ∧ Da K H v d := by
  obtain ⟨hi, _⟩ := List.getElem?_eq_some_iff.mp e
  have hv : i < vs.length := by rw [h.len]; exact hi
  obtain ⟨d', e', q⟩ := h.at (List.getElem?_eq_getElem hv)
  rw [e] at e'
  cases e'
  exact ⟨_, List.getElem?_eq_getElem hv, q⟩
theorem DaAll.app : ∀ {vs ws : List V} {ds es : List PyData}, DaAll K H vs ds → DaAll K H ws es → DaAll K H (vs ++ ws) (ds ++ es)
  | _, _, _, _, .nil, r => r
  | _, _, _, _, .cons h t, r => .cons h (t.app r)
theorem DaAll.take : ∀ {vs : List V} {ds : List PyData} (n : Nat), DaAll K H vs ds → DaAll K H (vs.take n) (ds.take n)
  | _, _, 0, _ => .nil
  | _, _, n + 1, .nil => .nil
  | _, _, n + 1, .cons h t => .cons h (t.take n)
theorem DaAll.drop : ∀ {vs : List V} {ds : List PyData} (n : Nat), DaAll K H vs ds → DaAll K H (vs.drop n) (ds.drop n)
  | _, _, 0, h => h
  | _, _, n + 1, .nil => .nil
  | _, _, n + 1, .cons h t => t.drop n
theorem DaAll.strs : ∀ xs : List Str, DaAll K H (xs.map V.str) (xs.map PyData.str)
  | [] => .nil
  | x :: r => .cons (.str x) (DaAll.strs r)
theorem DaAll.bls : ∀ xs : List Bool, DaAll K H (xs.map V.bl) (xs.map PyData.bool)
  | [] => .nil
  | x :: r => .cons (.bl x) (DaAll.bls r)
/-- a value of data that is all texts: the texts -/
theorem DaAll.isStrs : ∀ {vs : List V} {xs : List Str}, DaAll K H vs (xs.map PyData.str) → vs = xs.map V.str
  | _, [], h => by
    cases h
    rfl
  | _, x :: r, h => by
    cases h with
    | cons h1 h2 =>
      cases h1
      rw [h2.isStrs]
      rfl
theorem Da.newT {H : Hp} {q : Addr} {xs : List V} {ds : List PyData} (h : H q = some (.tup xs)) (r : DaAll K H xs ds) : Da K H (.ref q) (.tuple ds) := .tup (.inl (.inl h)) (.base (.tup h)) r
theorem Da.newL {H : Hp} {q : Addr} {xs : List V} {ds : List PyData} (h : H q = some (.lst xs)) (r : DaAll K H xs ds) : Da K H (.ref q) (.list ds) := .lst (.inl (.inl h)) (.base (.lst h)) r
end
/-- the class of a datum -/
def tyD : PyData → String
  | .none => "NoneType" | .bool _ => "bool" | .int _ => "int" | .str _ => "str" | .list _ => "list" | .tuple _ => "tuple" | .dict _ => "dict"
theorem Da.ty {K : PySem.W.Frag} {H : Hp} {v : V} {d : PyData} (h : Da K H v d) : TyX K H v (.type (tyD d)) := by
  cases h with
  | non => exact .base .non
  | bl b => exact .base (.bl b)
  | int i => exact .base (.int i)
  | str x => exact .base (.str x)
  | lst _ t _ => exact t
  | tup _ t _ => exact t
theorem kit_str (d : PyData) (h : tyD d ≠ "dict") : kitB (tyD d) "str" = some (decide (tyD d = "str")) := by
  cases d with
  | none => exact (by decide +kernel : kitB "NoneType" "str" = some (decide ("NoneType" = "str")))
  | bool b => exact (by decide +kernel : kitB "bool" "str" = some (decide ("bool" = "str")))
  | int i => exact (by decide +kernel : kitB "int" "str" = some (decide ("int" = "str")))
  | str x => exact (by decide +kernel : kitB "str" "str" = some (decide ("str" = "str")))
  | list xs => exact (by decide +kernel : kitB "list" "str" = some (decide ("list" = "str")))
  | tuple xs => exact (by decide +kernel : kitB "tuple" "str" = some (decide ("tuple" = "str")))
  | dict kvs => exact absurd rfl h
theorem kit_int (d : PyData) (h : tyD d ≠ "dict") : kitB (tyD d) "int" = some (decide (tyD d = "int" ∨ tyD d = "bool")) := by
  cases d with
  | none => exact (by decide +kernel : kitB "NoneType" "int" = some (decide ("NoneType" = "int" ∨ "NoneType" = "bool")))
  | bool b => exact (by decide +kernel : kitB "bool" "int" = some (decide ("bool" = "int" ∨ "bool" = "bool")))
  | int i => exact (by decide +kernel : kitB "int" "int" = some (decide ("int" = "int" ∨ "int" = "bool")))
  | str x => exact (by decide +kernel : kitB "str" "int" = some (decide ("str" = "int" ∨ "str" = "bool")))
  | list xs => exact (by decide +kernel : kitB "list" "int" = some (decide ("list" = "int" ∨ "list" = "bool")))
  | tuple xs => exact (by decide +kernel : kitB "tuple" "int" = some (decide ("tuple" = "int" ∨ "tuple" = "bool")))
  | dict kvs => exact absurd rfl h
theorem kit_bool (d : PyData) (h : tyD d ≠ "dict") : kitB (tyD d) "bool" = some (decide (tyD d = "bool")) := by
  cases d with
  | none => exact (by decide +kernel : kitB "NoneType" "bool" = some (decide ("NoneType" = "bool")))
  | bool b => exact (by decide +kernel : kitB "bool" "bool" = some (decide ("bool" = "bool")))
  | int i => exact (by decide +kernel : kitB "int" "bool" = some (decide ("int" = "bool")))
  | str x => exact (by decide +kernel : kitB "str" "bool" = some (decide ("str" = "bool")))
  | list xs => exact (by decide +kernel : kitB "list" "bool" = some (decide ("list" = "bool")))
  | tuple xs => exact (by decide +kernel : kitB "tuple" "bool" = some (decide ("tuple" = "bool")))
  | dict kvs => exact absurd rfl h
theorem kit_list (d : PyData) (h : tyD d ≠ "dict") : kitB (tyD d) "list" = some (decide (tyD d = "list")) := by
  cases d with
  | none => exact (by decide +kernel : kitB "NoneType" "list" = some (decide ("NoneType" = "list")))
  | bool b => exact (by decide +kernel : kitB "bool" "list" = some (decide ("bool" = "list")))
  | int i => exact (by decide +kernel : kitB "int" "list" = some (decide ("int" = "list")))
  | str x => exact (by decide +kernel : kitB "str" "list" = some (decide ("str" = "list")))
  | list xs => exact (by decide +kernel : kitB "list" "list" = some (decide ("list" = "list")))
  | tuple xs => exact (by decide +kernel : kitB "tuple" "list" = some (decide ("tuple" = "list")))
  | dict kvs => exact absurd rfl h
theorem kit_tuple (d : PyData) (h : tyD d ≠ "dict") : kitB (tyD d) "tuple" = some (decide (tyD d = "tuple")) := by
  cases d with
  | none => exact (by decide +kernel : kitB "NoneType" "tuple" = some (decide ("NoneType" = "tuple")))
  | bool b => exact (by decide +kernel : kitB "bool" "tuple" = some (decide ("bool" = "tuple")))
  | int i => exact (by decide +kernel : kitB "int" "tuple" = some (decide ("int" = "tuple")))
  | str x => exact (by decide +kernel : kitB "str" "tuple" = some (decide ("str" = "tuple")))
  | list xs => exact (by decide +kernel : kitB "list" "tuple" = some (decide ("list" = "tuple")))
  | tuple xs => exact (by decide +kernel : kitB "tuple" "tuple" = some (decide ("tuple" = "tuple")))
  | dict kvs => exact absurd rfl h
theorem Da.nodict {K : PySem.W.Frag} {H : Hp} {v : V} {d : PyData} (h : Da K H v d) : tyD d ≠ "dict" := by
  cases h with
  | non => exact (by decide : ("NoneType" : String) ≠ "dict")
  | bl b => exact (by decide : ("bool" : String) ≠ "dict")
  | int i => exact (by decide : ("int" : String) ≠ "dict")
  | str x => exact (by decide : ("str" : String) ≠ "dict")
  | lst _ _ _ => exact (by decide : ("list" : String) ≠ "dict")
  | tup _ _ _ => exact (by decide : ("tuple" : String) ≠ "dict")
end Th
namespace Th
open PySem PySem.Spec PyProof.Rows L2
/-! ### a def that stands at a name of the text and keeps a promise -/
/-- the built-in names are still the built-ins -/
structure Zs (mg : Str → Option Value) : Prop where
  len_ : mg "len" = none
  range_ : mg "range" = none
  int_ : mg "int" = none
  abs_ : mg "abs" = none
  isinstance_ : mg "isinstance" = none
  all_ : mg "all" = none
  any_ : mg "any" = none
  sorted_ : mg "sorted" = none
  set_ : mg "set" = none
  list_ : mg "list" = none
  tuple_ : mg "tuple" = none
  str_ : mg "str" = none
  bool_ : mg "bool" = none
  enumerate_ : mg "enumerate" = none
  min_ : mg "min" = none
  max_ : mg "max" = none
def At (K : PySem.W.Frag) (mg : Str → Option Value) (x : Str) (st : Stmt) (ps : List Str) : Prop :=
  ∃ (f : Addr) (fd : FuncData), Fun K x x st f fd ∧ mg x = some (.ref f) ∧ Binds K fd ps []
def Has (P : Program) (w : World) (K : PySem.W.Frag) (mg : Str → Option Value) (base : Heap) (x : Str) (st : Stmt) (k : Nat) (ps : List Str) (sp : Sp) : Prop :=
  ∃ (f : Addr) (fd : FuncData), FnOk P w K mg base CX0 k f fd ps sp ∧ mg x = some (.ref f) ∧ PySem.W.keepIn K (.ref f) = true ∧ Binds K fd ps [] ∧ Fun K x x st f fd
theorem kb_of {K : PySem.W.Frag} {x qual : Str} {st : Stmt} {f : Addr} {fd : FuncData} {ps ks : List Str} {g : List Value → List Value → List Value} {gV : List V → List V → List V} (F : Fun K x qual st f fd)
    (hrel : ∀ {vs : List V} {us : List Value} {zs : List V} {ws : List Value}, Vals vs us → Vals zs ws → Vals (gV vs zs) (g us ws))
    (h : ∀ (kV doc pm : Value) (an : Option Addr) (cdv ct : Value) (us ws : List Value), (g us ws).length = ps.length → bindArgs (PySem.W.fnOf x qual (defArgs st) (defBody st) (defScope st) .none kV doc pm an cdv ct) ⟨us, ks.zip ws⟩ = pure (ps.zip (g us ws))) :
    KBinds K fd ps ks g gV := by
  obtain ⟨oc, od, kV, doc, pm, an, cdv, ct, osl, rfl, lk, hcd⟩ := F.ex
  exact ⟨fun s us ws X hl => .of_eq (h kV doc pm an cdv ct us ws hl), fun r1 r2 => hrel r1 r2⟩
/-- one argument, by its name -/
def g1 {α : Type} : List α → List α → List α
  | [], [a] => [a]
  | _, _ => []
theorem g1_rel {vs : List V} {us : List Value} {zs : List V} {ws : List Value} (r1 : Vals vs us) (r2 : Vals zs ws) : Vals (g1 vs zs) (g1 us ws) := by
  cases r1 with
  | nil =>
    cases r2 with
    | nil => exact .nil
    | cons r r2 =>
      cases r2 with
      | nil => exact .cons r .nil
      | cons _ _ => exact .nil
  | cons _ _ =>
    cases r2 <;> exact .nil
/-- two arguments by their names, in the other order -/
def g2 {α : Type} : List α → List α → List α
  | [], [a, b] => [b, a]
  | _, _ => []
theorem g2_rel {vs : List V} {us : List Value} {zs : List V} {ws : List Value} (r1 : Vals vs us) (r2 : Vals zs ws) : Vals (g2 vs zs) (g2 us ws) := by
  cases r1 with
  | nil =>
    cases r2 with
    | nil => exact .nil
    | cons r r2 =>
      cases r2 with
      | nil => exact .nil
      | cons q r3 =>
        cases r3 with
        | nil => exact .cons q (.cons r .nil)
        | cons _ _ => exact .nil
  | cons _ _ =>
    cases r2 <;> exact .nil

/-! ### small facts of lists -/
theorem cut_none (xs : List V) (h : xs.length ≤ 63) : cutV xs none (some 63) = xs := by
  unfold cutV
  rw [HT.sIx_none, show HT.sIx xs.length xs.length (some 63) = min 63 xs.length from HT.sIx_nat xs.length xs.length 63]
  show List.take (min 63 xs.length - 0) (List.drop 0 xs) = xs
  rw [List.drop_zero, Nat.sub_zero, Nat.min_eq_right h, List.take_length]
theorem getmap {α β : Type} {f : α → β} {l : List α} {i : Nat} {y : β} (h : (l.map f)[i]? = some y) : ∃ x, l[i]? = some x ∧ f x = y := by
  rw [List.getElem?_map] at h
  cases e : l[i]? with
  | none =>
    rw [e] at h
    cases h
  | some x =>
    rw [e] at h
    exact ⟨x, rfl, Option.some.inj h⟩
theorem lt_of_get {α : Type} {l : List α} {i : Nat} {y : α} (h : l[i]? = some y) : i < l.length := (List.getElem?_eq_some_iff.mp h).1
theorem sline {n : Nat} (h : n ≤ 100000) : n ≤ sizeLine := Nat.le_trans h (by decide)
theorem slineL {n : Nat} (h : n < 100000) : n < sizeLine := Nat.lt_of_lt_of_le h (by decide)
theorem take_succ_map {α β : Type} {f : α → β} {l : List α} {i : Nat} {x : α} (h : l[i]? = some x) : ((l.take (i + 1)).map f) = (l.take i).map f ++ [f x] := by
  rw [List.take_add_one, h, List.map_append]
  rfl
theorem atI_of {xs : List V} {i : Int} {v : V} (h0 : 0 ≤ i) (h : xs[i.toNat]? = some v) : atI xs i = some v := by
  have e : i = ((i.toNat : Nat) : Int) := by omega
  rw [e]
  exact atI_nat h
end Th
namespace Th
def sgE (a b k : Nat) : Nat := (a + b * k % 26) % 26 + 26 * (k / 26)
theorem sgE_nodup : ∀ a, a < 26 → ∀ b ∈ [1, 3, 5, 7, 9, 11, 25], ((List.range 40).map (sgE a b)).Nodup := by decide +kernel
end Th
/-! texts and names -/
namespace Th
open PySem PySem.Spec PyProof.Rows L2
theorem nodup_at {α : Type} {l : List α} (h : l.Nodup) {i j : Nat} {x : α} (hi : l[i]? = some x) (hj : l[j]? = some x) : i = j := by
  obtain ⟨li, ei⟩ := List.getElem?_eq_some_iff.mp hi
  obtain ⟨lj, ej⟩ := List.getElem?_eq_some_iff.mp hj
  have q := List.pairwise_iff_getElem.mp h
  rcases Nat.lt_trichotomy i j with z | z | z
  · exact absurd (ei.trans ej.symm) (q i j li lj z)
  · exact z
  · exact absurd (ej.trans ei.symm) (q j i lj li z)
theorem nodup_sub {α : Type} [DecidableEq α] : ∀ {l m : List α}, l.Nodup → (∀ x ∈ l, x ∈ m) → l.length ≤ m.length
  | [], _, _, _ => Nat.zero_le _
  | x :: r, m, h, k => by
    obtain ⟨h1, h2⟩ := List.nodup_cons.mp h
    have hx := k x List.mem_cons_self
    have q : r.length ≤ (m.erase x).length := nodup_sub h2 fun y hy => by
      have ne : y ≠ x := fun e => h1 (e ▸ hy)
      exact (List.mem_erase_of_ne ne).mpr (k y (List.mem_cons_of_mem _ hy))
    rw [List.length_erase_of_mem hx] at q
    have p := List.length_pos_of_mem hx
    rw [List.length_cons]
    omega
def cs (x : Str) : List Nat := x.cps.toList
theorem cs_len (x : Str) : x.length = (cs x).length := (Array.length_toList).symm
theorem cs_inj {x y : Str} (h : cs x = cs y) : x = y := by
  cases x
  cases y
  exact congrArg Str.mk (Array.toList_inj.mp h)
theorem cs_app (x y : Str) : cs (x ++ y) = cs x ++ cs y := by
  show (x.cps ++ y.cps).toList = _
  rw [Array.toList_append]
  rfl
theorem cs_mk (l : List Nat) : cs ⟨l.toArray⟩ = l := rfl
theorem cs_join : ∀ ys : List Str, cs (Str.join Str.empty ys) = (ys.map cs).flatten
  | [] => rfl
  | [x] => by simp [Str.join]
  | x :: y :: r => by
    show cs (x ++ Str.empty ++ Str.join Str.empty (y :: r)) = _
    rw [cs_app, cs_app, cs_join (y :: r)]
    show cs x ++ [] ++ _ = _
    rw [List.append_nil]
    rfl
/-- the small letters -/
def abc : Str := "abcdefghijklmnopqrstuvwxyz"
theorem abc_len : (cs abc).length = 26 := by decide +kernel
theorem abc_nodup : (cs abc).Nodup := by decide +kernel
theorem abc_length : abc.length = 26 := by decide +kernel
/-- all signs are small letters -/
def Lw (x : Str) : Prop := ∀ c ∈ cs x, c ∈ cs abc
theorem Lw.app {x y : Str} (h : Lw x) (k : Lw y) : Lw (x ++ y) := fun c hc => by
  rw [cs_app] at hc
  rcases List.mem_append.mp hc with z | z
  · exact h c z
  · exact k c z
theorem Lw.sub {x y : Str} (h : Lw x) (k : ∀ c ∈ cs y, c ∈ cs x) : Lw y := fun c hc => h c (k c hc)
/-- a name -/
def isNm (x : Str) : Bool := decide (1 ≤ x.length) && decide (x.length ≤ 6) && (cs x).all fun c => decide (c ∈ cs abc)
theorem isNm_iff {x : Str} : isNm x = true ↔ 1 ≤ x.length ∧ x.length ≤ 6 ∧ Lw x := by
  unfold isNm
  rw [Bool.and_eq_true, Bool.and_eq_true, decide_eq_true_eq, decide_eq_true_eq, List.all_eq_true]
  constructor
  · rintro ⟨⟨a, b⟩, c⟩
    exact ⟨a, b, fun z hz => of_decide_eq_true (c z hz)⟩
  · rintro ⟨a, b, c⟩
    exact ⟨⟨a, b⟩, fun z hz => decide_eq_true (c z hz)⟩
theorem isNm_len {x : Str} (h : isNm x = true) : x.length ≤ 6 := (isNm_iff.mp h).2.1
/-- the k-th letter -/
def let_ (k : Nat) : Nat := (cs abc).getD k 0
theorem let_at {k : Nat} (h : k < 26) : (cs abc)[k]? = some (let_ k) := by
  have h' : k < (cs abc).length := by rw [abc_len]; exact h
  unfold let_
  rw [List.getD_eq_getElem?_getD, List.getElem?_eq_getElem h']
  rfl
theorem let_mem {k : Nat} (h : k < 26) : let_ k ∈ cs abc := List.mem_of_getElem? (let_at h)
theorem let_inj {i j : Nat} (hi : i < 26) (hj : j < 26) (h : let_ i = let_ j) : i = j := by
  have a := let_at hi
  have b := let_at hj
  rw [h] at a
  exact nodup_at abc_nodup a b
theorem atI_of' {xs : List Nat} {i : Int} {v : Nat} (h0 : 0 ≤ i) (h : xs[i.toNat]? = some v) : atI xs i = some v := by
  have e : i = ((i.toNat : Nat) : Int) := by omega
  rw [e]
  exact atI_nat h
theorem atI_let {k : Int} (h0 : 0 ≤ k) (h1 : k < 26) : atI abc.cps.toList k = some (let_ k.toNat) := atI_of' (xs := (cs abc)) h0 (let_at (by omega))
theorem sline_abc : abc.length ≤ sizeLine := by rw [abc_length]; decide
theorem sqh {K : PySem.W.Frag} {p q : Addr} {H : Hp} {xs : List V} (z : q ≠ p) (h : H q = some (.lst xs)) : SqL K (hid p H) q xs := .inl (.inl (by rw [hid_ne z]; exact h))
theorem sqhT {K : PySem.W.Frag} {p q : Addr} {H : Hp} {xs : List V} (z : q ≠ p) (h : H q = some (.tup xs)) : SqT K (hid p H) q xs := .inl (.inl (by rw [hid_ne z]; exact h))
theorem flatS (xs : List Str) : (xs.map V.str).all flatV = true := by
  rw [List.all_map, List.all_eq_true]
  exact fun _ _ => rfl
theorem inS (x : Str) (xs : List Str) : inV (.str x) (xs.map V.str) = decide (x ∈ xs) := by
  unfold inV
  rw [List.any_map, Bool.eq_iff_iff, List.any_eq_true, decide_eq_true_eq]
  constructor
  · rintro ⟨y, hy, e⟩
    have e' : y = x := beq_iff_eq.mp (show (y == x) = true from e)
    rw [← e']
    exact hy
  · intro hx
    exact ⟨x, hx, beq_self_eq_true x⟩
/-- len of a list or a tuple, by values -/
def rLn (K : PySem.W.Frag) : List V → Hp → VK → Prop := fun xs H Q => ∃ p ys, xs = [.ref p] ∧ (SqL K H p ys ∨ SqT K H p ys) ∧ Q (.int ys.length) H
theorem len_seqK {X : Cx} : CallR X (.builtin "len") (rLn X.K) := call_len_seq
theorem ixe (a b i : Nat) : ((a : Int) + ((b : Int) * ((0 : Int) + (i : Int))) % 26) % 26 = (((a + b * i % 26) % 26 : Nat) : Int) := by
  have e : (b : Int) * ((0 : Int) + (i : Int)) = ((b * i : Nat) : Int) := by rw [Int.zero_add, Int.natCast_mul]
  rw [e]
  omega
theorem stride_of {i : Nat} {v : V} (h : [V.int 1, .int 3, .int 5, .int 7, .int 9, .int 11, .int 25][i]? = some v) : ∃ b : Nat, b ∈ [1, 3, 5, 7, 9, 11, 25] ∧ b ≤ 25 ∧ v = .int (b : Int) := by
  have m := List.mem_of_getElem? h
  simp only [List.mem_cons, List.not_mem_nil, or_false] at m
  rcases m with e | e | e | e | e | e | e
  · exact ⟨1, by decide, by decide, e⟩
  · exact ⟨3, by decide, by decide, e⟩
  · exact ⟨5, by decide, by decide, e⟩
  · exact ⟨7, by decide, by decide, e⟩
  · exact ⟨9, by decide, by decide, e⟩
  · exact ⟨11, by decide, by decide, e⟩
  · exact ⟨25, by decide, by decide, e⟩
/-- the first letters of the signs -/
def sg1 (a b k : Nat) : Str := ⟨#[let_ ((a + b * k % 26) % 26)]⟩
theorem mapr {α : Type} (f : Nat → α) (n : Nat) : (List.range (n + 1)).map f = (List.range n).map f ++ [f n] := by
  rw [List.range_succ, List.map_append]
  rfl
theorem getr {α : Type} (f : Nat → α) {n k : Nat} (h : k < n) : ((List.range n).map f)[k]? = some (f k) := by
  rw [List.getElem?_map, List.getElem?_range h]
  rfl
def strV (v : V) : Str := match v with | .str x => x | _ => Str.empty
theorem perm_strs {ys : List V} {xs : List Str} (h : ys.Perm (xs.map V.str)) : ∃ zs : List Str, ys = zs.map V.str ∧ zs.Perm xs := by
  refine ⟨ys.map strV, ?_, ?_⟩
  · rw [List.map_map]
    refine (List.map_id ys).symm.trans (List.map_congr_left fun v hv => ?_)
    obtain ⟨x, _, rfl⟩ := List.mem_map.mp (h.mem_iff.mp hv)
    rfl
  · have q := h.map strV
    rw [List.map_map] at q
    have e : xs.map (strV ∘ V.str) = xs := (List.map_congr_left fun _ _ => rfl).trans (List.map_id xs)
    rw [e] at q
    exact q
theorem cut_to {n : Int} (xs : List V) (h : 0 ≤ n) : cutV xs none (some n) = xs.take n.toNat := by
  have e : n = ((n.toNat : Nat) : Int) := by omega
  unfold cutV
  rw [HT.sIx_none, e, HT.sIx_nat, List.drop_zero, Nat.sub_zero, Int.toNat_natCast, Nat.min_def]
  split
  · rfl
  · rw [List.take_length, List.take_of_length_le (by omega)]
/-! slices of texts -/
theorem cs_cut (z : Str) (lo hi : Option Int) : cs (cutS z lo hi) = ((cs z).drop (HT.sIx z.length 0 lo)).take (HT.sIx z.length z.length hi - HT.sIx z.length 0 lo) := rfl
theorem cs_cut_to (z : Str) (n : Int) (h : 0 ≤ n) : cs (cutS z none (some n)) = (cs z).take n.toNat := by
  have e : n = ((n.toNat : Nat) : Int) := by omega
  rw [cs_cut, HT.sIx_none, e, HT.sIx_nat, List.drop_zero, Nat.sub_zero, Int.toNat_natCast, Nat.min_def]
  split
  · rfl
  · rename_i hn
    rw [cs_len, List.take_length, List.take_of_length_le (by rw [← cs_len]; omega)]
theorem cs_cut_from (z : Str) (n : Int) (h : 0 ≤ n) (h2 : n ≤ z.length) : cs (cutS z (some n) none) = (cs z).drop n.toNat := by
  have e : n = ((n.toNat : Nat) : Int) := by omega
  rw [cs_cut, HT.sIx_none, e, HT.sIx_nat, Int.toNat_natCast, Nat.min_eq_left (by omega)]
  rw [cs_len, ← List.length_drop, List.take_length]
/-! the signs of names: the letter at (first + stride * k % 26) % 26, and a second one from 26 on -/
def sgn (a b : Nat) (k : Nat) : Str := ⟨#[let_ ((a + b * k % 26) % 26)]⟩ ++ (if k < 26 then Str.empty else ⟨#[let_ (k / 26)]⟩)
theorem sgn_cs (a b k : Nat) : cs (sgn a b k) = let_ ((a + b * k % 26) % 26) :: (if k < 26 then [] else [let_ (k / 26)]) := by
  unfold sgn
  rw [cs_app]
  split <;> rfl
theorem sgn_len (a b k : Nat) : (sgn a b k).length = if k < 26 then 1 else 2 := by
  rw [cs_len, sgn_cs]
  split <;> rfl
theorem sgn_lw (a b : Nat) {k : Nat} (h : k < 40) : Lw (sgn a b k) := by
  intro c hc
  rw [sgn_cs] at hc
  rcases List.mem_cons.mp hc with z | z
  · rw [z]
    exact let_mem (Nat.mod_lt _ (by decide))
  · split at z
    · cases z
    · rw [List.mem_singleton.mp z]
      exact let_mem (by omega)
theorem sgn_inj {a b i j : Nat} (ha : a < 26) (hb : b ∈ [1, 3, 5, 7, 9, 11, 25]) (hi : i < 40) (hj : j < 40) (h : sgn a b i = sgn a b j) : i = j := by
  have e : sgE a b i = sgE a b j := by
    have q := congrArg cs h
    rw [sgn_cs, sgn_cs] at q
    injection q with q1 q2
    have q3 := let_inj (Nat.mod_lt _ (by decide)) (Nat.mod_lt _ (by decide)) q1
    unfold sgE
    rw [q3]
    have q4 : i / 26 = j / 26 := by
      by_cases h1 : i < 26
      · by_cases h2 : j < 26
        · omega
        · rw [if_pos h1, if_neg h2] at q2
          cases q2
      · by_cases h2 : j < 26
        · rw [if_neg h1, if_pos h2] at q2
          cases q2
        · rw [if_neg h1, if_neg h2] at q2
          injection q2 with q5
          exact let_inj (by omega) (by omega) q5
    rw [q4]
  have nd := sgE_nodup a ha b hb
  have g1 : ((List.range 40).map (sgE a b))[i]? = some (sgE a b i) := by
    rw [List.getElem?_map, List.getElem?_range hi]
    rfl
  have g2 : ((List.range 40).map (sgE a b))[j]? = some (sgE a b j) := by
    rw [List.getElem?_map, List.getElem?_range hj]
    rfl
  rw [e] at g1
  exact nodup_at nd g1 g2
def sgns (a b n : Nat) : List Str := (List.range n).map (sgn a b)
theorem sgns_nodup {a b n : Nat} (ha : a < 26) (hb : b ∈ [1, 3, 5, 7, 9, 11, 25]) (hn : n ≤ 40) : (sgns a b n).Nodup := by
  unfold sgns
  rw [List.Nodup, List.pairwise_map]
  refine List.Pairwise.imp_of_mem ?_ List.nodup_range
  intro i j hi hj hne e
  exact hne (sgn_inj ha hb (by have := List.mem_range.mp hi; omega) (by have := List.mem_range.mp hj; omega) e)
theorem sgns_len (a b n : Nat) : (sgns a b n).length = n := by
  unfold sgns
  rw [List.length_map, List.length_range]
theorem sgns_mem {a b n : Nat} {x : Str} (hn : n ≤ 40) (h : x ∈ sgns a b n) : 1 ≤ x.length ∧ x.length ≤ 2 ∧ Lw x := by
  obtain ⟨k, hk, rfl⟩ := List.mem_map.mp h
  have hk' : k < n := List.mem_range.mp hk
  rw [sgn_len]
  refine ⟨?_, ?_, sgn_lw a b (by omega)⟩
  · split <;> omega
  · split <;> omega
/-- the words that stand in texts too -/
def kno : List Str := ["find", "finds", "word", "fact", "before", "first", "last", "lot", "never", "all", "rest", "self"]
theorem kno_nodup : kno.Nodup := by decide +kernel
theorem kno_ok : ∀ x ∈ kno, isNm x = true ∧ 3 ≤ x.length := by decide +kernel
theorem kno_len : kno.length = 12 := rfl
/-- names: each once -/
def Nms (xs : List Str) : Prop := xs.Nodup ∧ ∀ x ∈ xs, isNm x = true
theorem nms_known {ys : List Str} {a b n : Nat} (ha : a < 26) (hb : b ∈ [1, 3, 5, 7, 9, 11, 25]) (hn : n ≤ 40) (h : ys.Perm kno) (m : Nat) : Nms ((ys ++ sgns a b n).take m) := by
  have nd : (ys ++ sgns a b n).Nodup := by
    rw [List.nodup_append]
    refine ⟨h.nodup_iff.mpr kno_nodup, sgns_nodup ha hb hn, fun x hx y hy e => ?_⟩
    have q1 := (kno_ok x (h.mem_iff.mp hx)).2
    have q2 := (sgns_mem hn hy).2.1
    rw [e] at q1
    omega
  refine ⟨nd.sublist (List.take_sublist _ _), fun x hx => ?_⟩
  rcases List.mem_append.mp (List.mem_of_mem_take hx) with z | z
  · exact (kno_ok x (h.mem_iff.mp z)).1
  · obtain ⟨q1, q2, q3⟩ := sgns_mem hn z
    exact isNm_iff.mpr ⟨q1, by omega, q3⟩
/-- names by a stem around a sign -/
def stm (w : Str) (i : Nat) (s : Str) : Str := ⟨((cs w).take i).toArray⟩ ++ s ++ ⟨((cs w).drop i).toArray⟩
theorem stm_cs (w : Str) (i : Nat) (s : Str) : cs (stm w i s) = (cs w).take i ++ cs s ++ (cs w).drop i := by
  unfold stm
  rw [cs_app, cs_app]
  rfl
theorem stm_eq {w s : Str} {i : Int} (h0 : 0 ≤ i) (h1 : i ≤ w.length) : cutS w none (some i) ++ s ++ cutS w (some i) none = stm w i.toNat s := by
  refine cs_inj ?_
  rw [cs_app, cs_app, cs_cut_to _ _ h0, cs_cut_from _ _ h0 h1, stm_cs]
theorem nms_stem {w : Str} {i a b n : Nat} (hw : Lw w) (hl : w.length ≤ 4) (ha : a < 26) (hb : b ∈ [1, 3, 5, 7, 9, 11, 25]) (hn : n ≤ 40) : Nms ((sgns a b n).map (stm w i)) := by
  refine ⟨?_, fun x hx => ?_⟩
  · rw [List.Nodup, List.pairwise_map]
    refine List.Pairwise.imp ?_ (sgns_nodup ha hb hn)
    intro x y hne e
    have q := congrArg cs e
    rw [stm_cs, stm_cs] at q
    exact hne (cs_inj (List.append_cancel_left (List.append_cancel_right q)))
  · obtain ⟨s, hs, rfl⟩ := List.mem_map.mp hx
    obtain ⟨q1, q2, q3⟩ := sgns_mem hn hs
    rw [cs_len] at q1 q2 hl
    refine isNm_iff.mpr ⟨?_, ?_, fun c hc => ?_⟩
    · rw [cs_len, stm_cs, List.length_append, List.length_append]; omega
    · rw [cs_len, stm_cs, List.length_append, List.length_append, List.length_take, List.length_drop]; omega
    · rw [stm_cs] at hc
      rcases List.mem_append.mp hc with z | z
      · rcases List.mem_append.mp z with z | z
        · exact hw c (List.mem_of_mem_take z)
        · exact q3 c z
      · exact hw c (List.mem_of_mem_drop z)
theorem nm_word {x : Str} (h : Lw x) (h1 : 1 ≤ x.length) (h2 : (x.length : Int) ≤ 6) : isNm x = true := isNm_iff.mpr ⟨h1, by omega, h⟩
theorem nm_long {x y : Str} (h : isNm x = true) (k : Lw y) : isNm (cutS (x ++ y) none (some 6)) = true := by
  obtain ⟨h1, h2, h3⟩ := isNm_iff.mp h
  have e : cs (cutS (x ++ y) none (some 6)) = (cs (x ++ y)).take 6 := cs_cut_to _ 6 (by decide)
  rw [cs_len] at h1
  refine isNm_iff.mpr ⟨?_, ?_, fun c hc => ?_⟩
  · rw [cs_len, e, List.length_take, cs_app, List.length_append]
    omega
  · rw [cs_len, e, List.length_take]
    omega
  · rw [e] at hc
    exact h3.app k c (List.mem_of_mem_take hc)
/-- one name more -/
theorem Nms.snoc {xs : List Str} {x : Str} (h : Nms xs) (hx : isNm x = true) (n : x ∉ xs) : Nms (xs ++ [x]) := by
  refine ⟨?_, fun y hy => ?_⟩
  · rw [List.nodup_append]
    exact ⟨h.1, List.pairwise_singleton _ _, fun a ha b hb e => n (by rw [← List.mem_singleton.mp hb, ← e]; exact ha)⟩
  · rcases List.mem_append.mp hy with z | z
    · exact h.2 y z
    · rw [List.mem_singleton.mp z]
      exact hx
/-- a sign is left while there are fewer names than signs -/
theorem spare_left {xs ss : List Str} (h : ss.Nodup) (hl : xs.length < ss.length) : ∃ s r, ss.filter (fun s => !decide (s ∈ xs)) = s :: r := by
  cases e : ss.filter (fun s => !decide (s ∈ xs)) with
  | cons s r => exact ⟨s, r, rfl⟩
  | nil =>
    exfalso
    have all : ∀ s ∈ ss, s ∈ xs := fun s hs => by
      have q := List.filter_eq_nil_iff.mp e s hs
      simpa using q
    have sub := nodup_sub h all
    omega
end Th
/-! data that is written in the text, and data judged -/
namespace Th
open PySem PySem.Spec PyProof.Rows L2
def Lit (K : PySem.W.Frag) (t : TE) (d : PyData) : Prop := ∀ (D : DS) (σ : L2.St) (H : Hp) (Q : VK), Drw D H → (∀ v H', Go D H H' → Da K (hid D.p H') v d → Q v H') → t σ H Q
def LitA (K : PySem.W.Frag) (t : TA) (ds : List PyData) : Prop := ∀ (D : DS) (σ : L2.St) (H : Hp) (Q : List V → Hp → Prop), Drw D H → (∀ vs H', Go D H H' → DaAll K (hid D.p H') vs ds → Q vs H') → t σ H Q
section
variable {K : PySem.W.Frag}
theorem lit_non : Lit K (tC .non) .none := fun D σ H Q d q => q _ H (.refl d) .non
theorem lit_bl (b : Bool) : Lit K (tC (.bl b)) (.bool b) := fun D σ H Q d q => q _ H (.refl d) (.bl b)
theorem lit_int (i : Int) : Lit K (tC (.int i)) (.int i) := fun D σ H Q d q => q _ H (.refl d) (.int i)
theorem lit_neg (i : Int) : Lit K (tUn (rU fun i => .int (-i)) (tC (.int i))) (.int (-i)) := fun D σ H Q d q => ⟨i, rfl, q _ H (.refl d) (.int (-i))⟩
theorem lit_str (x : Str) : Lit K (tC (.str x)) (.str x) := fun D σ H Q d q => q _ H (.refl d) (.str x)
theorem lita_nil : LitA K tNil [] := fun D σ H Q d q => q _ H (.refl d) .nil
theorem lita_cons {t : TE} {d : PyData} {ta : TA} {ds : List PyData} (h : Lit K t d) (r : LitA K ta ds) : LitA K (tCons t ta) (d :: ds) := fun D σ H Q dr q =>
  h D σ H _ dr fun v H1 g1 h1 => r D σ H1 _ g1.st fun vs H2 g2 h2 => q _ H2 (g1.trans g2) (.cons (h1.to g2.sm) h2)
theorem lit_tup {ta : TA} {ds : List PyData} (h : LitA K ta ds) (hl : ds.length ≤ 100000) : Lit K (tTup ta) (.tuple ds) := fun D σ H Q dr q =>
  h D σ H _ dr fun vs H1 g1 h1 => ⟨sline (by rw [h1.len]; exact hl), fun p np => by
    have z := g1.st.ne_new np
    have g2 := g1.new (o := .tup vs) np
    refine q _ _ g2 (Da.newT (by rw [hid_ne z]; exact upd_same) (h1.to (Go.of g1.st (same_new np)).sm))⟩
theorem lit_lst {ta : TA} {ds : List PyData} (h : LitA K ta ds) (hl : ds.length ≤ 100000) : Lit K (tLst ta) (.list ds) := fun D σ H Q dr q =>
  h D σ H _ dr fun vs H1 g1 h1 => ⟨sline (by rw [h1.len]; exact hl), fun p np => by
    have z := g1.st.ne_new np
    have g2 := g1.new (o := .lst vs) np
    refine q _ _ g2 (Da.newL (by rw [hid_ne z]; exact upd_same) (h1.to (Go.of g1.st (same_new np)).sm))⟩
/-- the datum that an expression of constants, tuples and lists writes -/
def litE : Nat → Expr → Option PyData
  | _, .Constant .none _ _ => some .none
  | _, .Constant (.bool b) _ _ => some (.bool b)
  | _, .Constant (.int i) _ _ => some (.int i)
  | _, .Constant (.str x) _ _ => some (.str x)
  | _, .UnaryOp .USub (.Constant (.int i) _ _) _ => some (.int (-i))
  | n + 1, .Tuple es _ _ => (litEs (litE n) es).bind fun ds => if ds.length ≤ 1000 then some (.tuple ds) else none
  | n + 1, .List es _ => (litEs (litE n) es).bind fun ds => if ds.length ≤ 1000 then some (.list ds) else none
  | _, _ => none
where litEs (f : Expr → Option PyData) : List Expr → Option (List PyData)
  | [] => some []
  | e :: es => (f e).bind fun d => (litEs f es).map (d :: ·)
def NoStar (X : Cx) (e : Expr) : Prop := ∀ es, starEach (e :: es) X.env = (false, eval e X.env) :: starEach es X.env
theorem litEs_ok {X : Cx} {f : Expr → Option PyData} (hf : ∀ e d, f e = some d → ∃ t, PE X e t ∧ Lit K t d ∧ NoStar X e) : ∀ (es : List Expr) (ds : List PyData), litE.litEs f es = some ds → ∃ t, PA X es t ∧ LitA K t ds
  | [], ds, h => by
    cases h
    exact ⟨_, pa_nil, lita_nil⟩
  | e :: es, ds, h => by
    unfold litE.litEs at h
    cases h1 : f e with
    | none =>
      rw [h1] at h
      cases h
    | some d =>
      rw [h1] at h
      cases h2 : litE.litEs f es with
      | none =>
        rw [h2] at h
        cases h
      | some r =>
        rw [h2] at h
        cases h
        obtain ⟨t, a1, a2, a3⟩ := hf e d h1
        obtain ⟨u, b1, b2⟩ := litEs_ok hf es r h2
        exact ⟨_, pa_cons a1 b1 (a3 es), lita_cons a2 b2⟩
theorem litE_ok {X : Cx} : ∀ (n : Nat) (e : Expr) (d : PyData), litE n e = some d → ∃ t, PE X e t ∧ Lit K t d ∧ NoStar X e := by
  intro n
  induction n with
  | zero =>
    intro e d h
    unfold litE at h
    split at h
    · cases h; exact ⟨_, pe_non, lit_non, fun _ => rfl⟩
    · cases h; exact ⟨_, pe_bl, lit_bl _, fun _ => rfl⟩
    · cases h; exact ⟨_, pe_int, lit_int _, fun _ => rfl⟩
    · cases h; exact ⟨_, pe_str, lit_str _, fun _ => rfl⟩
    · cases h; exact ⟨_, pe_un un_neg pe_int, lit_neg _, fun _ => rfl⟩
    all_goals first | (exfalso; omega) | cases h
  | succ n ih =>
    intro e d h
    unfold litE at h
    split at h
    · cases h; exact ⟨_, pe_non, lit_non, fun _ => rfl⟩
    · cases h; exact ⟨_, pe_bl, lit_bl _, fun _ => rfl⟩
    · cases h; exact ⟨_, pe_int, lit_int _, fun _ => rfl⟩
    · cases h; exact ⟨_, pe_str, lit_str _, fun _ => rfl⟩
    · cases h; exact ⟨_, pe_un un_neg pe_int, lit_neg _, fun _ => rfl⟩
    · rename_i m es x1 p he
      obtain rfl := Nat.succ.inj he
      cases h1 : litE.litEs (litE n) es with
      | none => rw [h1] at h; cases h
      | some ds =>
        rw [h1] at h
        simp only [Option.bind_some] at h
        split at h
        · cases h
          obtain ⟨t, b1, b2⟩ := litEs_ok ih es ds h1
          exact ⟨_, pe_tup b1, lit_tup b2 (by omega), fun _ => rfl⟩
        · cases h
    · rename_i m es p he
      obtain rfl := Nat.succ.inj he
      cases h1 : litE.litEs (litE n) es with
      | none => rw [h1] at h; cases h
      | some ds =>
        rw [h1] at h
        simp only [Option.bind_some] at h
        split at h
        · cases h
          obtain ⟨t, b1, b2⟩ := litEs_ok ih es ds h1
          exact ⟨_, pe_lst b1, lit_lst b2 (by omega), fun _ => rfl⟩
        · cases h
    · cases h
/-- what a list of data holds -/
theorem Da.inL {H : Hp} {p : Addr} {ds : List PyData} (h : Da K H (.ref p) (.list ds)) : ∃ xs, SqL K H p xs ∧ DaAll K H xs ds := by
  cases h with
  | lst hs _ ha => exact ⟨_, hs, ha⟩
theorem Da.inT {H : Hp} {p : Addr} {ds : List PyData} (h : Da K H (.ref p) (.tuple ds)) : ∃ xs, SqT K H p xs ∧ DaAll K H xs ds := by
  cases h with
  | tup hs _ ha => exact ⟨_, hs, ha⟩
end
theorem kit_lt {K : PySem.W.Frag} (d : PyData) (h : tyD d ≠ "dict") : PySem.W.kitAny K (.type (tyD d)) [.type "list", .type "tuple"] = some (decide (tyD d = "list" ∨ tyD d = "tuple")) := by
  by_cases e1 : tyD d = "list"
  · refine kitAny_cons (kit_ty (kit_list d h)) (fun z => ?_) (fun _ => ?_)
    · rw [decide_eq_true e1] at z
      cases z
    · exact decide_eq_true (.inl e1)
  · refine kitAny_cons (kit_ty (kit_list d h)) (fun _ => ?_) (fun z => absurd (of_decide_eq_true z) e1)
    refine kitAny_cons (kit_ty (kit_tuple d h)) (fun z => ?_) (fun z => decide_eq_true (.inr (of_decide_eq_true z)))
    rw [kitAny_nil, decide_eq_false]
    rintro (q | q)
    · exact e1 q
    · exact of_decide_eq_false z q
/-- depth below n, sizes small -/
def Lv : Nat → PyData → Prop
  | _, .none => True
  | _, .bool _ => True
  | _, .int _ => True
  | _, .str x => x.length ≤ 100000 ∧ PyData.strOk x = true
  | 0, .list _ => False
  | 0, .tuple _ => False
  | n + 1, .list xs => xs.length ≤ 60 ∧ ∀ x ∈ xs, Lv n x
  | n + 1, .tuple xs => xs.length ≤ 60 ∧ ∀ x ∈ xs, Lv n x
  | _, .dict _ => False
def lvB : Nat → PyData → Bool
  | _, .none => true
  | _, .bool _ => true
  | _, .int _ => true
  | _, .str x => decide (x.length ≤ 100000) && PyData.strOk x
  | 0, .list _ => false
  | 0, .tuple _ => false
  | n + 1, .list xs => decide (xs.length ≤ 60) && xs.all (lvB n)
  | n + 1, .tuple xs => decide (xs.length ≤ 60) && xs.all (lvB n)
  | _, .dict _ => false
theorem lv_of : ∀ (n : Nat) (d : PyData), lvB n d = true → Lv n d
  | 0, .none, _ => trivial
  | 0, .bool _, _ => trivial
  | 0, .int _, _ => trivial
  | 0, .str x, h => by
    obtain ⟨a, b⟩ := Bool.and_eq_true_iff.mp h
    exact ⟨of_decide_eq_true a, b⟩
  | 0, .list _, h => nomatch h
  | 0, .tuple _, h => nomatch h
  | 0, .dict _, h => nomatch h
  | n + 1, .none, _ => trivial
  | n + 1, .bool _, _ => trivial
  | n + 1, .int _, _ => trivial
  | n + 1, .str x, h => by
    obtain ⟨a, b⟩ := Bool.and_eq_true_iff.mp h
    exact ⟨of_decide_eq_true a, b⟩
  | n + 1, .list xs, h => by
    obtain ⟨a, b⟩ := Bool.and_eq_true_iff.mp h
    exact ⟨of_decide_eq_true a, fun x hx => lv_of n x (List.all_eq_true.mp b x hx)⟩
  | n + 1, .tuple xs, h => by
    obtain ⟨a, b⟩ := Bool.and_eq_true_iff.mp h
    exact ⟨of_decide_eq_true a, fun x hx => lv_of n x (List.all_eq_true.mp b x hx)⟩
  | n + 1, .dict _, h => nomatch h
theorem Lv.up : ∀ (n : Nat) (d : PyData), Lv n d → Lv (n + 1) d
  | 0, .none, _ => trivial
  | 0, .bool _, _ => trivial
  | 0, .int _, _ => trivial
  | 0, .str x, h => h
  | 0, .list _, h => h.elim
  | 0, .tuple _, h => h.elim
  | 0, .dict _, h => h.elim
  | n + 1, .none, _ => trivial
  | n + 1, .bool _, _ => trivial
  | n + 1, .int _, _ => trivial
  | n + 1, .str x, h => h
  | n + 1, .list xs, h => ⟨h.1, fun x hx => Lv.up n x (h.2 x hx)⟩
  | n + 1, .tuple xs, h => ⟨h.1, fun x hx => Lv.up n x (h.2 x hx)⟩
  | n + 1, .dict _, h => h.elim
mutual
theorem Lv.shape : ∀ (n : Nat) (d : PyData), Lv n d → d.canLay0 = true ∧ d.depth ≤ n
  | 0, .none, _ => ⟨by simp only [PyData.canLay0], by simp [PyData.depth]⟩
  | 0, .bool _, _ => ⟨by simp only [PyData.canLay0], by simp [PyData.depth]⟩
  | 0, .int _, _ => ⟨by simp only [PyData.canLay0], by simp [PyData.depth]⟩
  | 0, .str x, h => ⟨by simp only [PyData.canLay0]; exact h.2, by simp [PyData.depth]⟩
  | 0, .list _, h => h.elim
  | 0, .tuple _, h => h.elim
  | 0, .dict _, h => h.elim
  | n + 1, .none, _ => ⟨by simp only [PyData.canLay0], by simp [PyData.depth]⟩
  | n + 1, .bool _, _ => ⟨by simp only [PyData.canLay0], by simp [PyData.depth]⟩
  | n + 1, .int _, _ => ⟨by simp only [PyData.canLay0], by simp [PyData.depth]⟩
  | n + 1, .str x, h => ⟨by simp only [PyData.canLay0]; exact h.2, by simp [PyData.depth]⟩
  | n + 1, .list xs, h => by
    obtain ⟨a, b⟩ := Lv.shapes n xs h.2
    exact ⟨by simp only [PyData.canLay0]; exact a, by simp only [PyData.depth]; omega⟩
  | n + 1, .tuple xs, h => by
    obtain ⟨a, b⟩ := Lv.shapes n xs h.2
    exact ⟨by simp only [PyData.canLay0]; exact a, by simp only [PyData.depth]; omega⟩
  | n + 1, .dict _, h => h.elim
theorem Lv.shapes : ∀ (n : Nat) (xs : List PyData), (∀ x ∈ xs, Lv n x) → PyData.canLayAll0 xs = true ∧ PyData.depthAll xs ≤ n
  | n, [], _ => ⟨by simp only [PyData.canLayAll0], by simp [PyData.depthAll]⟩
  | n, x :: xs, h => by
    obtain ⟨a, b⟩ := Lv.shape n x (h x List.mem_cons_self)
    obtain ⟨c, e⟩ := Lv.shapes n xs fun y hy => h y (List.mem_cons_of_mem _ hy)
    exact ⟨by simp only [PyData.canLayAll0, a, c, Bool.and_self], by simp only [PyData.depthAll]; omega⟩
end
theorem Lv.shaped {n : Nat} {d : PyData} (h : Lv n d) (hn : n ≤ 64) : SeqAt.shaped d = true := by
  obtain ⟨a, b⟩ := Lv.shape n d h
  unfold SeqAt.shaped
  rw [a, decide_eq_true (by omega)]
  rfl
theorem strOk_lw {x : Str} (h : Lw x) : PyData.strOk x = true := by
  unfold PyData.strOk
  rw [Array.all_eq_true']
  intro c hc
  have q := h c (by unfold cs; exact Array.mem_toList_iff.mpr hc)
  have all : ∀ c ∈ cs abc, c < 0x110000 := by decide +kernel
  exact decide_eq_true (all c q)
theorem lv_nm {n : Nat} {x : Str} (h : isNm x = true) : Lv n (.str x) := by
  obtain ⟨h1, h2, h3⟩ := isNm_iff.mp h
  have q : x.length ≤ 100000 ∧ PyData.strOk x = true := ⟨by omega, strOk_lw h3⟩
  cases n <;> exact q
/-- a datum is a name -/
def nmD : PyData → Bool
  | .str x => isNm x
  | _ => false
/-- data that comes now and then -/
def odds : List PyData := [.none, .bool true, .bool false, .int 0, .int 1, .int (-1), .int 30, .int 999999999, .str "", .str "a", .str "A", .str "ab1", .str "abcdefg", .str "a b", .str "a\n", .str "{", .tuple [], .list [], .tuple [.str "a"], .list [.str "a"],
  .tuple [.str "b", .str "a"], .tuple [.str "a", .str "a"], .tuple [.str "a", .int 1], .tuple [.none], .tuple [.bool true], .tuple [.tuple [.str "a"]], .list [.list [.str "a"]], .tuple [.str "a", .list [.str "a"]], .tuple [.str "a", .str ""], .tuple [.str "a", .str "B"],
  .list [.str "a", .tuple [.str "a"]], .tuple [.str "a", .tuple [.str "b", .str "a"]], .tuple [.str "a", .tuple []], .tuple [.str "a", .list []], .tuple [.int 1, .tuple [.str "a"]]]
theorem odds_lv : ∀ d ∈ odds, Lv 2 d := by
  have h : odds.all (lvB 2) = true := by decide +kernel
  exact fun d hd => lv_of 2 d (List.all_eq_true.mp h d hd)
/-- one deeper -/
def LvN : Nat → PyData → Prop
  | 0, _ => False
  | n + 1, d => Lv n d
theorem lvn_list {n : Nat} {xs : List PyData} (h : Lv n (.list xs)) : xs.length ≤ 60 ∧ ∀ x ∈ xs, LvN n x := by
  cases n with
  | zero => exact h.elim
  | succ n => exact h
theorem lvn_tuple {n : Nat} {xs : List PyData} (h : Lv n (.tuple xs)) : xs.length ≤ 60 ∧ ∀ x ∈ xs, LvN n x := by
  cases n with
  | zero => exact h.elim
  | succ n => exact h
theorem da_two {K : PySem.W.Frag} {H : Hp} {v u : V} {d : PyData} {k : Nat} (hv : Da K H v d) (hu : Da K H u d) (h : tyD d = "list" ∨ tyD d = "tuple") (lv : Lv k d) :
    ∃ p r xs ys ds, v = .ref p ∧ u = .ref r ∧ (SqL K H p xs ∨ SqT K H p xs) ∧ (SqL K H r ys ∨ SqT K H r ys) ∧ DaAll K H xs ds ∧ DaAll K H ys ds ∧ ds.length ≤ 60 ∧ ∀ x ∈ ds, LvN k x := by
  cases d with
  | list ds =>
    cases hv with
    | lst h1 _ h2 =>
      cases hu with
      | lst g1 _ g2 => exact ⟨_, _, _, _, ds, rfl, rfl, .inl h1, .inl g1, h2, g2, (lvn_list lv).1, (lvn_list lv).2⟩
  | tuple ds =>
    cases hv with
    | tup h1 _ h2 =>
      cases hu with
      | tup g1 _ g2 => exact ⟨_, _, _, _, ds, rfl, rfl, .inr h1, .inr g1, h2, g2, (lvn_tuple lv).1, (lvn_tuple lv).2⟩
  | none => rcases h with h | h <;> exact absurd h (by decide)
  | bool b => rcases h with h | h <;> exact absurd (show ("bool" : String) = _ from h) (by decide)
  | int b => rcases h with h | h <;> exact absurd (show ("int" : String) = _ from h) (by decide)
  | str b => rcases h with h | h <;> exact absurd (show ("str" : String) = _ from h) (by decide)
  | dict b => cases hv
theorem ix_any {K : PySem.W.Frag} {H : Hp} {p : Addr} {xs : List V} {i : Nat} {v : V} {Q : VK} (h : SqL K H p xs ∨ SqT K H p xs) (e : xs[i]? = some v) (q : Q v H) : rIx K (.ref p) (.int ((0 : Int) + (i : Int))) H Q := by
  have a : atI xs ((0 : Int) + (i : Int)) = some v := by
    rw [Int.zero_add]
    exact atI_nat e
  rcases h with h | h
  · exact .inl ⟨p, xs, _, v, rfl, rfl, h, a, q⟩
  · exact .inr (.inl ⟨p, xs, _, v, rfl, rfl, h, a, q⟩)
theorem sq_any {K : PySem.W.Frag} {H H' : Hp} {p : Addr} {xs : List V} (s : Same H H') (h : SqL K H p xs ∨ SqT K H p xs) : SqL K H' p xs ∨ SqT K H' p xs := h.imp s.seq (same_t s)
/-- a judge of one datum, that changes nothing -/
def spJ (K : PySem.W.Frag) (n : Nat) (j : PyData → Bool) : Sp := fun vs H Q _ => ∃ (v : V) (d : PyData), vs = [v] ∧ Da K H v d ∧ Lv n d ∧ ∀ H', Same H H' → Q (.bl (j d)) H'
end Th
/-! texts in order, lots, statements -/
namespace Th
open PySem PySem.Spec PyProof.Rows L2
/-- x stands behind y or is y -/
def leS (x y : Str) : Prop := ¬ cs y < cs x
theorem ltCps_iff (x y : Str) : ltCps x.cps.toList y.cps.toList = decide (cs x < cs y) := by
  first | rfl | (rw [ltCps_eq]; rfl) | exact ltCps_eq ..
theorem rising_pair : ∀ (r : List Str) (p : Str), risingS p r = true → (p :: r).Pairwise leS
  | [], p, _ => List.pairwise_singleton _ _
  | x :: r, p, h => by
    have h' : (!ltCps x.cps.toList p.cps.toList && risingS x r) = true := h
    obtain ⟨a, b⟩ := Bool.and_eq_true_iff.mp h'
    have a' : leS p x := by
      rw [ltCps_iff] at a
      intro z
      rw [decide_eq_true z] at a
      cases a
    have ih := rising_pair r x b
    refine List.pairwise_cons.mpr ⟨fun y hy => ?_, ih⟩
    rcases List.mem_cons.mp hy with e | hy
    · rw [e]; exact a'
    · have q := (List.pairwise_cons.mp ih).1 y hy
      intro z
      have t1 := Std.lt_of_lt_of_le z (Std.not_lt.mp a')
      exact q t1
theorem sorted_pair {l : List Str} (h : sortedS l = true) : l.Pairwise leS := by
  cases l with
  | nil => exact List.Pairwise.nil
  | cons x r => exact rising_pair r x h
theorem leS_anti {x y : Str} (a : leS x y) (b : leS y x) : x = y := cs_inj (Std.le_antisymm (Std.not_lt.mp a) (Std.not_lt.mp b))
/-- one list in order has these members -/
theorem sorted_one : ∀ {l m : List Str}, l.Perm m → l.Pairwise leS → m.Pairwise leS → l = m
  | [], m, p, _, _ => (List.nil_perm.mp p).symm
  | x :: l, [], p, _, _ => (List.perm_nil.mp p)
  | x :: l, y :: m, p, h, k => by
    obtain ⟨h1, h2⟩ := List.pairwise_cons.mp h
    obtain ⟨k1, k2⟩ := List.pairwise_cons.mp k
    have e : x = y := by
      rcases List.mem_cons.mp (p.mem_iff.mp (List.mem_cons_self (a := x) (l := l))) with e | hx
      · exact e
      · rcases List.mem_cons.mp (p.mem_iff.mpr (List.mem_cons_self (a := y) (l := m))) with e | hy
        · exact e.symm
        · exact leS_anti (h1 y hy) (k1 x hx)
    subst e
    rw [sorted_one (List.perm_cons _ |>.mp p) h2 k2]
/-- each below the next -/
def risB : List Str → Bool
  | x :: y :: r => decide (cs x < cs y) && risB (y :: r)
  | _ => true
theorem ris_pair : ∀ {l : List Str}, risB l = true → l.Pairwise (fun x y => cs x < cs y)
  | [], _ => List.Pairwise.nil
  | [x], _ => List.pairwise_singleton _ _
  | x :: y :: r, h => by
    obtain ⟨a, b⟩ := Bool.and_eq_true_iff.mp (show (decide (cs x < cs y) && risB (y :: r)) = true from h)
    have ih := ris_pair b
    have a' := of_decide_eq_true a
    refine List.pairwise_cons.mpr ⟨fun z hz => ?_, ih⟩
    rcases List.mem_cons.mp hz with e | hz
    · rw [e]; exact a'
    · exact Std.lt_trans a' ((List.pairwise_cons.mp ih).1 z hz)
theorem pair_ris : ∀ {l : List Str}, l.Pairwise (fun x y => cs x < cs y) → risB l = true
  | [], _ => rfl
  | [x], _ => rfl
  | x :: y :: r, h => by
    obtain ⟨h1, h2⟩ := List.pairwise_cons.mp h
    show (decide (cs x < cs y) && risB (y :: r)) = true
    rw [decide_eq_true (h1 y List.mem_cons_self), pair_ris h2]
    rfl
theorem ris_nodup {l : List Str} (h : risB l = true) : l.Nodup := (ris_pair h).imp fun {x y} a e => by
  rw [e] at a
  exact Std.lt_irrefl a
theorem ris_le {l : List Str} (h : risB l = true) : l.Pairwise leS := (ris_pair h).imp fun {x y} a z => Std.lt_irrefl (Std.lt_trans a z)
theorem once_perm {xs : List Str} (h : xs.Nodup) : (once [] xs).Perm xs := by
  refine (List.perm_ext_iff_of_nodup (once_nodup xs [] List.nodup_nil) h).mpr fun y => ?_
  rw [once_mem]
  simp
/-- the texts in order, each once, are the texts themselves exactly if each is below the next -/
theorem lot_iff {xs ys : List Str} (p : ys.Perm (once [] xs)) (s : sortedS ys = true) : xs = ys ↔ risB xs = true := by
  constructor
  · intro e
    rw [e]
    have nd : ys.Nodup := p.nodup_iff.mpr (once_nodup xs [] List.nodup_nil)
    refine pair_ris ?_
    refine List.Pairwise.imp_of_mem (R := fun x y => leS x y ∧ x ≠ y) ?_ ((sorted_pair s).and nd)
    intro x y _ _ ⟨a, b⟩
    rcases Std.lt_trichotomy (cs x) (cs y) with z | z | z
    · exact z
    · exact absurd (cs_inj z) b
    · exact absurd z a
  · intro h
    exact sorted_one ((once_perm (ris_nodup h)).symm.trans p.symm) (ris_le h) (sorted_pair s)

def strD : PyData → Str
  | .str x => x
  | _ => Str.empty
theorem nmD_str {d : PyData} (h : nmD d = true) : d = .str (strD d) := by
  cases d <;> first | rfl | cases h
theorem nms_strs : ∀ {ds : List PyData}, ds.all nmD = true → ds = (ds.map strD).map .str
  | [], _ => rfl
  | d :: ds, h => by
    obtain ⟨a, b⟩ := Bool.and_eq_true_iff.mp (show (nmD d && ds.all nmD) = true from h)
    rw [List.map_cons, List.map_cons, ← nms_strs b, ← nmD_str a]
/-- a datum is a lot -/
def lotD : PyData → Bool
  | .tuple ds => !ds.isEmpty && ds.all nmD && risB (ds.map strD)
  | _ => false
theorem lotD_tup (ds : List PyData) : lotD (.tuple ds) = (!ds.isEmpty && ds.all nmD && risB (ds.map strD)) := rfl
def eqS : PyData → Str → Bool
  | .str y, x => y == x
  | _, _ => false
theorem eqv_str (d : PyData) (x : Str) : PyData.eqv d (.str x) = eqS d x := by
  cases d <;> simp [PyData.eqv, eqS]
theorem eqS_iff {d : PyData} {x : Str} : eqS d x = true ↔ d = .str x := by
  cases d <;> simp [eqS]
theorem eqv_strs : ∀ xs ys : List Str, PyData.eqvAll (xs.map .str) (ys.map .str) = decide (xs = ys)
  | [], [] => by simp [PyData.eqvAll]
  | [], _ :: _ => by simp [PyData.eqvAll]
  | _ :: _, [] => by simp [PyData.eqvAll]
  | x :: xs, y :: ys => by
    rw [List.map_cons, List.map_cons]
    have e : PyData.eqvAll (PyData.str x :: xs.map .str) (PyData.str y :: ys.map .str) = (PyData.eqv (.str x) (.str y) && PyData.eqvAll (xs.map .str) (ys.map .str)) := by simp [PyData.eqvAll]
    rw [e, eqv_strs xs ys, eqv_str, Bool.eq_iff_iff, Bool.and_eq_true, eqS_iff]
    simp
/-- a datum is a statement -/
def stD : PyData → Bool
  | .tuple (.str h :: r) => if h = "lot" then (r.length == 1 && r.all lotD) else if h = "before" then (r.length == 2 && r.all nmD) else (decide (h = "never") && r.isEmpty)
  | _ => false
theorem lv_head {n : Nat} {d : PyData} {r : List PyData} (h : Lv (n + 1) (.tuple (d :: r))) : Lv n d := h.2 d List.mem_cons_self
theorem lv_in {n : Nat} {ds : List PyData} {d : PyData} (h : Lv (n + 1) (.tuple ds)) (m : d ∈ ds) : Lv n d := h.2 d m
theorem lv_lot {n : Nat} {xs : List Str} (h : ∀ x ∈ xs, isNm x = true) (hl : xs.length ≤ 60) : Lv (n + 1) (.tuple (xs.map .str)) :=
  ⟨by rw [List.length_map]; exact hl, fun x hx => by
    obtain ⟨y, hy, rfl⟩ := List.mem_map.mp hx
    exact lv_nm (h y hy)⟩
theorem lv_lotL {n : Nat} {xs : List Str} (h : ∀ x ∈ xs, isNm x = true) (hl : xs.length ≤ 60) : Lv (n + 1) (.list (xs.map .str)) :=
  ⟨by rw [List.length_map]; exact hl, fun x hx => by
    obtain ⟨y, hy, rfl⟩ := List.mem_map.mp hx
    exact lv_nm (h y hy)⟩
theorem scan_small {n : Nat} (h : n ≤ 1000) : n + 1 < scanBound := by
  unfold scanBound
  omega
end Th
namespace Th
open PySem PySem.Spec PyProof.Rows L2
theorem kp {H : Hp} {l q : Addr} {o u : HO} (h : H l = some o) (hq : H q = none) : (upd H q u) l = some o := by
  rw [upd_ne (ne_of_none h hq)]
  exact h
/-- a part of data is data -/
theorem DaAll.cut {K : PySem.W.Frag} {H : Hp} {vs : List V} {ds : List PyData} (h : DaAll K H vs ds) (lo hi : Option Int) : ∃ es, DaAll K H (cutV vs lo hi) es ∧ (∀ e ∈ es, e ∈ ds) ∧ es.length ≤ ds.length := by
  unfold cutV
  refine ⟨_, (h.drop _).take _, fun e he => List.mem_of_mem_drop (List.mem_of_mem_take he), ?_⟩
  rw [List.length_take, List.length_drop]
  omega
theorem lv_snoc {n : Nat} {a b : List PyData} (h : ∀ d ∈ a, Lv n d) (k : ∀ d ∈ b, Lv n d) : ∀ d ∈ a ++ b, Lv n d := fun d hd => by
  rcases List.mem_append.mp hd with z | z
  · exact h d z
  · exact k d z
theorem lv_one {n : Nat} {d : PyData} (h : Lv n d) : ∀ e ∈ [d], Lv n e := fun e he => by
  rw [List.mem_singleton.mp he]
  exact h
theorem cutL {xs : List V} {ds : List PyData} {lo hi : Option Int} (h : xs.length = ds.length) : (cutV xs lo hi).length ≤ ds.length := by
  rw [← h]
  exact cutV_length xs lo hi
theorem cut_strs (zs : List Str) (lo hi : Option Int) : ∃ ws : List Str, cutV (zs.map V.str) lo hi = ws.map V.str ∧ (∀ x ∈ ws, x ∈ zs) ∧ ws.length ≤ zs.length := by
  unfold cutV
  refine ⟨(zs.drop (HT.sIx (zs.map V.str).length 0 lo)).take (HT.sIx (zs.map V.str).length (zs.map V.str).length hi - HT.sIx (zs.map V.str).length 0 lo), ?_, fun x hx => List.mem_of_mem_drop (List.mem_of_mem_take hx), ?_⟩
  · rw [List.map_take, List.map_drop]
  · rw [List.length_take, List.length_drop]
    omega
theorem lv_names {xs : List Str} (h : ∀ x ∈ xs, isNm x = true) (n : Nat) : ∀ d ∈ xs.map PyData.str, Lv n d := fun d hd => by
  obtain ⟨x, hx, rfl⟩ := List.mem_map.mp hd
  exact lv_nm (h x hx)
theorem lv_word (n : Nat) (x : Str) (h : PyData.strOk x = true) (h2 : x.length ≤ 100000) : Lv n (.str x) := by
  cases n <;> exact ⟨h2, h⟩
theorem Lv.ups {n m : Nat} {d : PyData} (h : Lv n d) (k : n ≤ m) : Lv m d := by
  induction k with
  | refl => exact h
  | step _ ih => exact ih.up
end Th
/-! a dict of the text with a few words as keys -/
namespace Th
open PySem PySem.Spec PyProof.Rows L2
/-- what a dict of the text holds at a word -/
def lookE : List (Str × Value) → Str → Option Value
  | [], _ => none
  | (k, v) :: r, z => if k = z then some v else lookE r z
theorem ns_of {K : PySem.W.Frag} {d : Addr} {c : Value} {od : Option Addr} {n : Nat} {sl : Array (Option Value)} : ∀ (es : List DictEntry) (kvs : List (Str × Value)), K.lookup d = some ⟨c, od, .dict es.toArray n, sl⟩ →
    Paired (fun (e : DictEntry) (p : Str × Value) => (∃ t, e.key = .str p.1 t) ∧ e.val = p.2) es kvs → ∀ z : Str, PySem.W.nsIn K d z = some (lookE kvs z) := by
  intro es kvs l p z
  unfold PySem.W.nsIn
  rw [l]
  show (match es.find? (fun e => e.key.isStr z) with | some e => some (some e.val) | none => if es.any (·.refKey) then none else some none) = some (lookE kvs z)
  have hno : es.any (·.refKey) = false := by
    clear l
    induction p with
    | nil => rfl
    | cons h _ ih =>
      obtain ⟨⟨t, e⟩, _⟩ := h
      rw [List.any_cons, ih, Bool.or_false]
      simp only [DictEntry.refKey, e]
  rw [hno]
  clear hno l
  induction p with
  | nil => rfl
  | @cons e q es kvs h _ ih =>
    obtain ⟨⟨t, e1⟩, e2⟩ := h
    obtain ⟨k, v⟩ := q
    rw [List.find?_cons]
    have hs : e.key.isStr z = decide (k = z) := by
      rw [PySem.W.isStr_of, e1]
      show Value.isStrOf z (.str k t) = _
      simp only [Value.isStrOf]
      rw [Bool.eq_iff_iff, beq_iff_eq, decide_eq_true_eq]
    rw [hs]
    unfold lookE
    by_cases hk : k = z
    · rw [decide_eq_true hk, if_pos hk]
      show some (some e.val) = _
      rw [e2]
    · rw [decide_eq_false hk, if_neg hk]
      exact ih
end Th
namespace Th
open PySem PySem.Spec PyProof.Rows L2
def rKd (K : PySem.W.Frag) (d : Addr) : R2 := fun x y H Q => ∃ (z : Str) (u0 : Value) (v0 : V), x = .ref d ∧ y = .str z ∧ PySem.W.nsIn K d z = some (some u0) ∧ RelV v0 u0 ∧ Q v0 H
def rInKd (K : PySem.W.Frag) (d : Addr) : R2 := fun x y H Q => ∃ (z : Str) (r : Option Value), x = .str z ∧ y = .ref d ∧ PySem.W.nsIn K d z = some r ∧ Q (.bl r.isSome) H
theorem ix_kd {X : Cx} {d : Addr} {es : Array DictEntry} {n : Nat} (D : KDict X.K X.w d es n) : IxR X (rKd X.K d) := by
  intro value slice pins s σ H x y v u Q I rx ry h hs
  have key := op_item_kd D pins s σ H x y v u Q I rx ry h
  obtain ⟨z, u0, v0, rfl, rfl, _⟩ := h
  cases rx
  exact tail_any (kd_type D I) PySem.F.slot_dict_getitem.lookup key hs
end Th
/-! a tuple read backwards -/
namespace Th
open PySem PySem.Spec PyProof.Rows L2 HT
section
variable {prog : Program} {w : World} {A : Around} {E : Value → Shared → Prop} {s : Shared}
theorem adj_rev (n : Nat) : Builtin.Slice.sliceAdjust none none (-1) (n : Int) = ((n : Int) - 1, -1) := by
  unfold Builtin.Slice.sliceAdjust
  simp
theorem places_rev (n : Nat) : Builtin.Slice.slicePlaces ((n : Int) - 1) (-1) (-1) = n := by
  unfold Builtin.Slice.slicePlaces
  have h1 : ¬ ((-1 : Int) > 0) := by decide
  rw [if_neg h1]
  by_cases h : (n : Int) - 1 > -1
  · rw [if_pos h, show (- -1 : Int) = 1 by decide, Int.ediv_one]
    omega
  · rw [if_neg h]
    omega
theorem applied_rev {sl : Addr} {vl vu vs : Value} {n : Nat} {Q : Int × Int × Nat → Shared → Prop} (hs : s.heap.IsSliceOf sl vl vu vs) (pl : IsPart vl none) (pu : IsPart vu none) (ps : IsPart vs (some (-1)))
    (h : Q ((n : Int) - 1, -1, n) s) : wpAny (model prog w) A (Builtin.Slice.sliceApplied (.ref sl) (pure (n : Int))) Q E s := by
  obtain ⟨os, hos, hcs, hds⟩ := id hs
  unfold Builtin.Slice.sliceApplied Builtin.Slice.sliceFields
  refine wpAny_bind (wpAny_bind (wpAny_field hos hds (x := vl) rfl (wpAny_bind (wpAny_field hos hds (x := vu) rfl (wpAny_bind (wpAny_field hos hds (x := vs) rfl (wpAny_pure ?_)))))))
  refine wpAny_bind (slicePart_ ps ?_)
  show wpAny _ _ (if ((-1 : Int) == 0) = true then _ else _) _ _ s
  rw [if_neg (by decide)]
  refine wpAny_bind (slicePart_ pl (wpAny_bind (slicePart_ pu (wpAny_bind (wpAny_pure ?_)))))
  show wpAny _ _ (match Builtin.Slice.sliceAdjust none none (-1) (n : Int) with | (lo, hi) => pure (lo, (-1 : Int), Builtin.Slice.slicePlaces lo hi (-1))) _ _ s
  rw [adj_rev n]
  show wpAny _ _ (pure ((n : Int) - 1, (-1 : Int), Builtin.Slice.slicePlaces ((n : Int) - 1) (-1) (-1))) _ _ s
  rw [places_rev]
  exact wpAny_pure h
theorem fm_congr {α β : Type} {f g : α → Option β} : ∀ {l : List α}, (∀ k ∈ l, f k = g k) → l.filterMap f = l.filterMap g
  | [], _ => rfl
  | a :: r, h => by
    rw [List.filterMap_cons, List.filterMap_cons, h a List.mem_cons_self, fm_congr (l := r) fun k hk => h k (List.mem_cons_of_mem _ hk)]
theorem pick_rev (xs : Array Value) : ((List.range xs.size).filterMap fun (k : Nat) => xs[(((xs.size : Int) - 1) + (k : Int) * (-1)).toNat]?).toArray = xs.toList.reverse.toArray := by
  have e : ((List.range xs.size).filterMap fun (k : Nat) => xs[(((xs.size : Int) - 1) + (k : Int) * (-1)).toNat]?) = (List.range xs.size).filterMap ((fun j => xs[j]?) ∘ fun k => xs.size - 1 - k) := by
    refine fm_congr fun k hk => ?_
    have := List.mem_range.mp hk
    have z : (((xs.size : Int) - 1) + (k : Int) * (-1)).toNat = xs.size - 1 - k := by omega
    rw [z]
    rfl
  rw [e, ← List.filterMap_map, PySem.W.krv_range, List.filterMap_reverse, PySem.W.krv_all]
theorem getItem_tuple_rev {t sl : Addr} {items : Array Value} {vl vu vs : Value} {Q : Value → Shared → Prop} (ht : IsTup s.heap t items) (hs : s.heap.IsSliceOf sl vl vu vs) (pl : IsPart vl none) (pu : IsPart vu none) (ps : IsPart vs (some (-1)))
    (h : Q (.ref s.heap.objs.size) { s with heap := s.heap.push { cls := .type "tuple", data := .seq items.toList.reverse.toArray } })
    (hsz : items.size ≤ sizeLine) : wpAny (model prog w) A (getItem (.ref t) (.ref sl)) Q E s := by
  have htake : sizeOk (.seq items.toList.reverse.toArray) := by
    show items.toList.reverse.toArray.size ≤ sizeLine
    rw [List.size_toArray, List.length_reverse, Array.length_toList]
    omega
  obtain ⟨os, hos, hcs, hds⟩ := id hs
  have hTs : s.TypeIs (.ref sl) "slice" := ⟨os, hos, hcs⟩
  unfold getItem
  try with_reducible refine wpAny_holding ?_
  first | refine wpAny_bind (wpAny_pure ?_) | skip
  refine wpAny_bind (wpAny_sequenceKey ht.typeIs (by decide) ?_)
  refine wpAny_bind (wpAny_callSpecial?_slot (name := Str.ofString "__getitem__") ht.typeIs PyProof.Rows.slot_tuple_getitem
    (wpAny_call_entry PyProof.Rows.slot_tuple_getitem ht.typeIs entry_tuple_getitem ?_ (args_tuple_getitem _ _)))
  show wpAny _ _ (Builtin.Tuple.tupleItemsOf (.ref t) >>= _) _ _ s
  refine wpAny_bind (tupleItemsOf_ ht ?_)
  refine wpAny_bind (wpAny_typeOf hTs ?_)
  rw [if_pos (by decide)]
  refine wpAny_bind (applied_rev hs pl pu ps ?_)
  have hno : ¬ ((((items.size : Int) - 1) == 0 && (-1 : Int) == 1 && items.size == items.size) = true) := by
    rw [show ((-1 : Int) == 1) = false by decide, Bool.and_false, Bool.false_and]
    exact Bool.false_ne_true
  show wpAny _ _ (if (((items.size : Int) - 1) == 0 && (-1 : Int) == 1 && items.size == items.size) = true then _ else _) _ _ s
  rw [if_neg hno, pick_rev]
  first
    | exact wpAny_bind (m := Builtin.Tuple.tupleExact _) (wpAny_newObj_type (wpAny_pure ⟨_, rfl, wpAny_pure h⟩) htake)
    | exact wpAny_bind (m := Builtin.Tuple.tupleExact _) (wpAny_newObj_type (wpAny_bind (wpAny_pure (wpAny_pure ⟨_, rfl, wpAny_pure h⟩))) htake)
    | exact wpAny_bind (wpAny_bind (m := Builtin.Tuple.tupleExact _) (wpAny_newObj_type (wpAny_pure (wpAny_pure ⟨_, rfl, wpAny_pure h⟩)) htake))
    | exact wpAny_bind (wpAny_bind (m := Builtin.Tuple.tupleExact _) (wpAny_newObj_type (wpAny_pure ⟨_, rfl, wpAny_pure h⟩) htake))
end
/-- a tuple whose object has no dict -/
def BareT (H : Hp) (a : Addr) (xs : List V) : Prop := ∃ o : Obj, H a = some (.frz o (.tup xs)) ∧ o.dict = none
theorem BareT.sq {K : PySem.W.Frag} {H : Hp} {a : Addr} {xs : List V} (h : BareT H a xs) : SqT K H a xs := by
  obtain ⟨o, e, _⟩ := h
  exact .inl (.inr ⟨o, e⟩)
theorem BareT.to {H H' : Hp} {a : Addr} {xs : List V} (h : BareT H a xs) (s : Same H H') : BareT H' a xs := by
  obtain ⟨o, e, d⟩ := h
  exact ⟨o, s _ _ e, d⟩
theorem bare_ty {K : PySem.W.Frag} {H : Hp} {a : Addr} {xs : List V} (h : BareT H a xs) : TyX K H (.ref a) (.type "tuple") := by
  obtain ⟨o, e, _⟩ := h
  exact .fTuple e
theorem bare_da {K : PySem.W.Frag} {H : Hp} {a : Addr} {xs : List V} {ds : List PyData} (h : BareT H a xs) (r : DaAll K H xs ds) : Da K H (.ref a) (.tuple ds) := .tup h.sq (bare_ty h) r
def rTupIx (K : PySem.W.Frag) : V → List V → Hp → VK → Prop := fun x xs H Q => ∃ p, ∃ ys : List Str, ∃ z j, x = .ref p ∧ xs = [.str z] ∧ SqT K H p (ys.map V.str) ∧ ys[j]? = some z ∧ (∀ m, m < j → ys[m]? ≠ some z) ∧ Q (.int (j : Nat)) H
theorem mt_tupIx {X : Cx} : MtR X "tuple.index" (rTupIx X.K) := mt_tup_index
def tyBare (x : V) (H : Hp) : Prop := ∃ a xs, x = .ref a ∧ BareT H a xs
section
variable {X : Cx}
theorem ty_bare : TyOk X "tuple" tyBare := by
  intro pins σ H s x v I r ty
  obtain ⟨a, xs, rfl, o, e, d⟩ := ty
  cases r
  have z := I.hok a _ e
  obtain ⟨g, _, its, _, o', g', c, _⟩ : ObjOk X.prog X.w H s.heap a (.frz o (.tup xs)) := z
  rw [g] at g'
  cases g'
  refine ⟨⟨o, g, c⟩, fun b e => ?_⟩
  cases e
  exact ⟨o, g, d⟩
theorem call_tuple_bare : CallR X (.type "tuple") (fun xs H Q => ∃ p ys, xs = [.ref p] ∧ SqL X.K H p ys ∧ ∀ l o, H l = none → o.dict = none → Q (.ref l) (upd H l (.frz o (.tup ys)))) := by
  intro pins s σ H xs us Q I r h
  obtain ⟨p, ys, rfl, hq, q⟩ := h
  obtain ⟨u, rfl, rx⟩ := vals1 r
  cases rx
  obtain ⟨its, r', pl, hz⟩ := I.list hq
  have hlen := r'.length
  refine call_tuple_list pl.isList (fun h' kp => ?_) (by simp only [List.size_toArray] <;> omega)
  have I1 : Inv X pins σ H { s with heap := h' } := I.kept (t' := s.toks) kp
  have I2 : Inv X pins σ (upd H h'.objs.size (.frz { cls := .type "tuple", data := .seq its.toArray } (.tup ys))) { s with heap := h'.push { cls := .type "tuple", data := .seq its.toArray } } :=
    I1.laid (t' := s.toks) (fun b o e => Heap.get?_push_of_some _ e) (Nat.le_refl _) (show ObjOk X.prog X.w _ _ _ (.frz { cls := .type "tuple", data := .seq its.toArray } (.tup ys)) from ⟨Heap.get?_push_size _ rfl, hz, its, r', IsTup.new _ _⟩)
  exact ⟨.ref h'.objs.size, _, I2, rfl, q _ _ (I1.hok.fresh (Nat.le_refl _)) rfl⟩
end
section
variable {X : Cx}
/-- a tuple backwards, in a new tuple -/
def tRevT (K : PySem.W.Frag) (te : TE) : TE := fun σ H Q => te σ H fun x H1 => ∃ a xs, x = .ref a ∧ SqT K H1 a xs ∧ ∀ p o, H1 p = none → o.dict = none → Q (.ref p) (upd H1 p (.frz o (.tup xs.reverse)))
theorem pe_revT {e : Expr} {te : TE} {k : Nat} {p1 p2 p3 pos : Pos} (he : PE X e te) : PE X (.Subscript e (.Slice none none (some (.UnaryOp .USub (.Constant (.int 1) k p1) p2)) p3) pos) (tRevT X.K te) := by
  refine ⟨fun pins s σ H Q I h => ?_⟩
  refine Subscript_ (thn (he.run pins s σ H _ I h) fun v s1 ⟨x, H1, I1, r1, q1⟩ => ?_)
  obtain ⟨a, xs, ex, hx, q⟩ := q1
  subst ex
  cases r1
  have hst : PO X (some (.UnaryOp .USub (.Constant (.int 1) k p1) p2)) (tPart (tUn (rU fun i => .int (-i)) (tC (.int 1)))) := po_some (pe_un un_neg pe_int)
  refine wpAny_Slice (thn (po_none.run pins s1 σ H1 (fun o H2 => o = none ∧ H2 = H1) I1 ⟨rfl, rfl⟩) fun vl s2 ⟨l, H2, I2, pl, el, e2⟩ => ?_)
  subst el e2
  refine thn (po_none.run pins s2 σ H2 (fun o H3 => o = none ∧ H3 = H2) I2 ⟨rfl, rfl⟩) fun vu s3 ⟨u, H3, I3, pu, eu, e3⟩ => ?_
  subst eu e3
  refine thn (hst.run pins s3 σ H3 (fun o H4 => o = some (-1) ∧ H4 = H3) I3 ⟨1, rfl, -1, rfl, rfl, rfl⟩) fun vs s4 ⟨o, H4, I4, ps, eo, e4⟩ => ?_
  subst eo e4
  have I5 : Inv X pins σ H4 { s4 with heap := s4.heap.push { cls := .type "slice", data := .fields #[vl, vu, vs] } } := I4.kept (t' := s4.toks) fun b ob q => Heap.get?_push_of_some _ q
  obtain ⟨its, r, ht, hz⟩ := I5.tuple hx
  have hlen : its.toArray.size = xs.length := by rw [List.size_toArray]; exact r.length.symm
  show wpAny (model X.prog X.w) X.A (subscriptTail e (.Slice none none (some (.UnaryOp .USub (.Constant (.int 1) k p1) p2)) p3) (.ref a) (.ref s4.heap.objs.size)) (EP X pins σ Q) X.xe { s4 with heap := s4.heap.push { cls := .type "slice", data := .fields #[vl, vu, vs] } }
  refine tail_any (ops := [.ref a, .ref s4.heap.objs.size]) ht.typeIs PyProof.Rows.slot_tuple_getitem.lookup ?_ (by with_unfolding_all rfl)
  refine getItem_tuple_rev ht (Heap.IsSliceOf.new _ vl vu vs) pl pu ps ?_ (by rw [hlen]; exact hz)
  refine ⟨.ref _, _, I5.laid (t' := s4.toks) (o := .frz { cls := .type "tuple", data := .seq its.toArray.toList.reverse.toArray } (.tup xs.reverse)) (fun b ob q => Heap.get?_push_of_some _ q) (Nat.le_refl _) ?_, rfl, q _ _ (I5.hok.fresh (Nat.le_refl _)) rfl⟩
  exact ⟨Heap.get?_push_size _ rfl, by rw [List.length_reverse]; exact hz, _, r.reverse, IsTup.new _ _⟩
end
end Th
/-! sorted(a tuple of texts) -/
namespace L2
open PySem PySem.Spec PyProof.Rows
section
variable {P : Program} {w : World} {A : Around} {E : Value → Shared → Prop} {s : Shared}
theorem tt_collect {t : Addr} {vs : List Value} {Q : List Value → Shared → Prop} (ht : IsTup s.heap t vs.toArray) (hz : vs.length ≤ sizeLine)
    (fin : ∀ s1 : Shared, (∀ b o, s.heap.get? b = some o → s1.heap.get? b = some o) → s1.gens = s.gens → s1.os = s.os → s.heap.objs.size ≤ s1.heap.objs.size → Q vs s1) :
    wpAny (model P w) A (collect (.ref t)) Q E s := by
  obtain ⟨o, ho, hc, n, hd⟩ := ht
  have hn : (s.heap.push (seqObj "list" #[] 0)).get? s.heap.objs.size = some (seqObj "list" #[] 0) := Heap.get?_push_size _ rfl
  unfold collect
  refine wpAny_bind (wpAny_runValue (codeAny_builtin entry_proto_collect' ?_))
  show wpAny _ _ (do again (.builtin "list.__iadd__" ⟨[← newList [], .ref t], []⟩)) _ _ s
  refine wpAny_bind (wpAny_newList (wpAny_pure ⟨Code.quiet_builtin _ (by decide +kernel), codeAny_builtin entry_list_iadd' ?_⟩))
  show wpAny _ _ (Builtin.List.listExtendWith (.ref s.heap.objs.size) (.ref t) (.ref s.heap.objs.size)) _ _ { s with heap := s.heap.push (seqObj "list" #[] 0) }
  have ho' : (s.heap.push (seqObj "list" #[] 0)).get? t = some o := Heap.get?_push_of_some _ ho
  unfold Builtin.List.listExtendWith
  refine wpAny_bind (wpAny_typeOf (T := "tuple") ⟨o, ho', hc⟩ ?_)
  rw [if_pos (by simp)]
  refine wpAny_bind (listItems_at ho' hd (wpAny_bind (listItems_at (xs := #[]) (n := 0) hn rfl ?_)))
  rw [if_neg (by simp)]
  refine wpAny_bind (listUpdate_at (xs := #[]) (n := 0) hn rfl ?_ (Nat.zero_le _) (by rw [Array.size_append, List.size_toArray]; show 0 + vs.length ≤ sizeLine + 1; omega))
  refine wpAny_pure ?_
  show wpAny (model P w) A (do
      let o ← load s.heap.objs.size
      match o.data with
      | .seq xs _ => pure xs.toList
      | _ => unsupported "internal:collect") Q E { s with heap := (s.heap.push (seqObj "list" #[] 0)).update s.heap.objs.size (Obj.mapSeq (· ++ vs.toArray)) }
  refine wpAny_bind (wpAny_load (get?_update_seq hn _) ?_)
  show wpAny _ _ (pure ((#[] : Array Value) ++ vs.toArray).toList) Q E _
  rw [show ((#[] : Array Value) ++ vs.toArray).toList = vs by simp]
  refine wpAny_pure (fin _ (fun b u hb => ?_) rfl rfl ?_)
  · have lt := Heap.lt_size hb
    show ((s.heap.push (seqObj "list" #[] 0)).update s.heap.objs.size (Obj.mapSeq (· ++ vs.toArray))).get? b = some u
    rw [Heap.get?_update_ne _ _ _ _ (Nat.ne_of_lt lt)]
    exact Heap.get?_push_of_some _ hb
  · show s.heap.objs.size ≤ ((s.heap.push (seqObj "list" #[] 0)).update s.heap.objs.size (Obj.mapSeq (· ++ vs.toArray))).objs.size
    rw [Heap.size_update, size_push']
    exact Nat.le_succ _
theorem tt_sorted {a : Addr} {vs : List Value} {l : List Str} {Q : Value → Shared → Prop} (ht : IsTup s.heap a vs.toArray) (hS : StrsAre vs l) (h64 : vs.length < 64)
    (fin : ∀ s' p (out : Array Value) (c : Nat) (ys : List Str), (∀ b o, s.heap.get? b = some o → s'.heap.get? b = some o) → s'.gens = s.gens → s'.os = s.os → s.heap.objs.size ≤ p →
      s'.heap.get? p = some (seqObj "list" out c) → StrsAre out.toList ys → ys.Perm l → sortedS ys = true → Q (.ref p) s') :
    wpAny (model P w) A (call (.builtin "sorted") [.ref a]) Q E s := by
  have hz : vs.length ≤ sizeLine := by rw [sizeLine_eq]; omega
  refine Calls.call_function_entry kind_sorted plain_sorted entry_sorted (args_sorted1 _) ?_
  unfold Builtin.«sorted»
  refine wpAny_bind (m := checkCount "sorted" 1 1 _) (wpAny_pure ?_)
  refine wpAny_bind (tt_collect ht hz fun s1 k1 g1 o1 hz1 => ?_)
  refine wpAny_bind (wpAny_newList ?_ hz)
  have hoL : (s1.heap.push (seqObj "list" vs.toArray 0)).get? s1.heap.objs.size = some (seqObj "list" vs.toArray 0) := Heap.get?_push_size _ rfl
  refine wpAny_bind (wpAny_holding (wpAny_call_entry slot_list_sort ⟨_, hoL, rfl⟩ entry_list_sort
    (list_sort_treeK strKind_oneLt hoL hS.keysOf (fun v₁ v₂ rest e => keyKind_strs (by rw [← e]; exact hS)) h64 fun st' a1 a2 => ⟨_, rfl, ?_⟩) (args_list_sort _)))
  obtain ⟨ys, b1, b2, b3⟩ := sorted_out_str hS a1 a2
  obtain ⟨c, hc⟩ := sortedHeap_at (vs := vs) (out := (arrOf st').map (·.2)) hoL
  refine wpAny_pure ⟨_, rfl, fin _ s1.heap.objs.size _ c ys (fun b u e => ?_) g1 o1 hz1 hc b1 b2 b3⟩
  have q := k1 b u e
  have hlt := Heap.lt_size q
  show (sortedHeap (s1.heap.push (seqObj "list" vs.toArray 0)) s1.heap.objs.size vs _).get? b = some u
  rw [sortedHeap_old (Nat.ne_of_lt hlt) (by rw [size_push']; exact Nat.lt_succ_of_lt hlt)]
  exact Heap.get?_push_of_some _ q
end
section
variable {X : Cx}
def rSortedTT (K : PySem.W.Frag) : List V → Hp → VK → Prop := fun vs H Q => ∃ (a : Addr) (l : List Str), vs = [V.ref a] ∧ SqT K H a (l.map V.str) ∧ l.length < 64 ∧
  ∀ (ys : List Str) (p : Addr), ys.Perm l → sortedS ys = true → H p = none → Q (.ref p) (upd H p (.lst (ys.map V.str)))
theorem cr_sortedTT : CallR X (.builtin "sorted") (rSortedTT X.K) := by
  intro pins s σ H vs us Q I r h
  obtain ⟨a, l, rfl, ha, h64, q⟩ := h
  obtain ⟨its, rv, ht, hz⟩ := I.tuple ha
  rw [Vals.ref1 r]
  have hl := rv.length
  rw [List.length_map] at hl
  refine tt_sorted ht rv.strs (by rw [← hl]; exact h64) fun s' p out c ys k g o hp hg hi hs hm => ?_
  have hlen : (ys.map V.str).length ≤ sizeLine := by rw [List.length_map, hs.length_eq, sizeLine_eq]; omega
  have hn : H p = none := I.hok.fresh hp
  have J : Inv X pins σ (upd H p (.lst (ys.map V.str))) { s with heap := s'.heap, gens := s'.gens, drawn := s'.drawn, toks := s'.toks } :=
    I.call (ch := []) (Un.laid k hp hn) (I.hok.laid k hp ⟨hlen, out.toList, c, vals_of_strs hi, hg⟩) (by rw [g]; exact I.bare) (fun _ z => nomatch z)
  have e : s' = { s with heap := s'.heap, gens := s'.gens, drawn := s'.drawn, toks := s'.toks } := by
    cases s'
    cases s
    cases o
    rfl
  rw [e]
  exact ⟨.ref p, _, J, rfl, q ys p hs hm hn⟩
end
end L2
/-! own exceptions with fields, over any built-in class: made, stored into, raised -/
namespace PySem
namespace XG
open PySem.W PySem.Calls PyProof.Rows
open Builtin Builtin.ObjectAttr
section
variable {prog : Program} {w : World} {A : Around} {R : Result → Shared → Prop} {hp : Heap} {g : Array GenState} {d : Drawn} {t : Nat} {os : OsState}
variable {K : W.Frag} {name : Str} {tk : Tok} {v : Value} {x C t1 : Addr} {B : String} {bmB : List Value}
abbrev rec_ (C t1 : Addr) (dv : Option Addr) : Obj := { cls := .ref C, dict := dv, data := .fields #[.ref t1, .none, .none, .none, .bool false, .none] }
/-- x.name = v, x without a dict as yet -/
theorem first_store (SF : StoreFacts B bmB "object.__setattr__" "object") (X : K.In hp) (hx : hp.get? x = some (rec_ C t1 none)) (ov : excOver K C bmB = true) (ht : takerIn K C name = some none) (hh : hasDictIn K C = true)
    (hq : ∀ h' tk' dx, (∀ b o, b ≠ x → hp.get? b = some o → h'.get? b = some o) → hp.objs.size ≤ dx → h'.get? x = some (rec_ C t1 (some dx)) → h'.Ns1 dx (fun y => if y = name then some v else none) → R (.ok (.ret .none)) ⟨h', g, d, tk', os⟩) :
    codeAny (model prog w) A (.call (.builtin "object.__setattr__") ⟨[.ref x, .str name tk, v], []⟩) R ⟨hp, g, d, t, os⟩ := by
  refine osa_openX (s := ⟨hp, g, d, t, os⟩) (od := none) SF X ⟨hx, rfl, rfl, trivial⟩ ov ht fun b => ?_
  obtain ⟨cd, hc, hd⟩ := any_some hh
  have lt : x < hp.objs.size := Heap.lt_size hx
  refine wpAny_bind (wpAny_pure (wpAny_bind (instanceDict_exc hx (looks_clsIn X hc) hd ?_)))
  show wpAny _ _ (storeInDict hp.objs.size (.str name tk) name v) _ _ _
  refine HandSPX.store_in_new (hp := (hp.push (dictOf [] 0)).update x fun o => { o with dict := some hp.objs.size }) ⟨_, #[], 0, (Heap.get?_update_ne _ _ _ _ (Nat.ne_of_gt lt)).trans (Heap.get?_push_at rfl rfl), rfl, fun e he => absurd he (by simp), fun _ => rfl⟩ fun h' tk' hn sm => ?_
  have up : ((hp.push (dictOf [] 0)).update x fun o => { o with dict := some hp.objs.size }).get? x = some (rec_ C t1 (some hp.objs.size)) := Heap.get?_update_self _ (Heap.get?_push_of_some _ hx) rfl
  refine hq h' tk' hp.objs.size (fun b o nb e => ?_) (Nat.le_refl _) ((sm.2 x (Nat.ne_of_lt lt)).trans up) hn
  have e1 := Heap.get?_push_of_some (dictOf [] 0) e
  exact (sm.2 b (Nat.ne_of_lt (Heap.lt_size e))).trans ((Heap.get?_update_ne _ _ _ _ nb).trans e1)
/-- x.name = v, x's dict at dx -/
theorem next_store {dx : Addr} {m0 : Str → Option Value} {nl : List Str} (SF : StoreFacts B bmB "object.__setattr__" "object") (X : K.In hp) (hx : hp.get? x = some (rec_ C t1 (some dx))) (hn : hp.Ns1 dx m0) (hw : Within m0 nl) (hl : nl.length ≤ 1000)
    (ov : excOver K C bmB = true) (ht : takerIn K C name = some none) (hh : hasDictIn K C = true)
    (hq : ∀ h' tk', (∀ b o, b ≠ dx → hp.get? b = some o → h'.get? b = some o) → h'.Ns1 dx (fun y => if y = name then some v else m0 y) → R (.ok (.ret .none)) ⟨h', g, d, tk', os⟩) :
    codeAny (model prog w) A (.call (.builtin "object.__setattr__") ⟨[.ref x, .str name tk, v], []⟩) R ⟨hp, g, d, t, os⟩ := by
  obtain ⟨od, _, _, D, _, _⟩ := hn.count hw
  refine osa_openX (s := ⟨hp, g, d, t, os⟩) (od := some od) SF X ⟨hx, rfl, rfl, D⟩ ov ht fun b => ?_
  obtain ⟨cd, hc, hd⟩ := any_some hh
  refine wpAny_bind (wpAny_pure (wpAny_bind (wpAny_bind (wpAny_loadPart hx (wpAny_bind ((looks_clsIn X hc).here ?_))))))
  rw [hd]
  refine wpAny_pure (a := some dx) ?_
  exact PySem.OEX.store_in_old hn hw hl fun h' tk' hn' sm => hq h' tk' (fun b o nb e => (sm.2 b nb).trans e) hn'
end
end XG
end PySem

namespace L2
open PySem PySem.Spec PyProof.Rows
/-- what the written part says of an own exception class at C -/
structure ExG (K : PySem.W.Frag) (C : Addr) : Prop where
  over : ∃ (B newId initId : String) (bmB : List Value), ExcBaseFacts B newId initId bmB ∧ StoreFacts B bmB "object.__setattr__" "object" ∧ PySem.W.excInitIn K C bmB newId = true ∧ PySem.W.excOver K C bmB = true
  sa : PySem.W.findIn K (.ref C) "__setattr__" = some (some (.builtin "object.__setattr__"))
  exC : PySem.W.subIn K (.ref C) (.type "BaseException") = some true
  tyC : PySem.W.typeIn K (.ref C) = some (.type "type")
  kC : PySem.W.keepIn K (.ref C) = true
  hd : PySem.W.hasDictIn K C = true
theorem taker_none {K : PySem.W.Frag} {C : Addr} {f : Str} (h : PySem.W.findIn K (.ref C) f = some none) : PySem.W.takerIn K C f = some none := by
  unfold PySem.W.takerIn
  rw [h]
  rfl
section
variable {X : Cx} {pins : List (Addr × Obj)} {σ : St} {H : Hp} {s : Shared} {a C dx : Addr} {f : Str} {y : V} {u : Value} {fs : List (Str × V)} {Q : Unit → Shared → Prop} {E : Value → Shared → Prop} {A : Around}
theorem put_first (T : ExG X.K C) (I : Inv X pins σ H s) (e : H a = some (exo a C none)) (nf : PySem.W.findIn X.K (.ref C) f = some none) (ry : RelV y u)
    (h : ∀ dx s', H dx = none → dx ≠ a → Inv X pins σ (upd (upd H dx (exd dx [(f, y)])) a (exo a C (some dx))) s' → Q () s') : wpAny (model X.prog X.w) A (setAttr (.ref a) f u) Q E s := by
  obtain ⟨B, newId, initId, bmB, FB, SF, ini, ov⟩ := T.over
  obtain ⟨t1, ho⟩ := exo_at I.hok e
  obtain ⟨hp, g, d, t, os⟩ := s
  refine PySem.W.set_plain I.kIn (ox := PySem.XG.rec_ C t1 none) (od := none) ⟨ho, rfl, rfl, trivial⟩ T.sa ?_
  refine PySem.XG.first_store SF I.kIn ho ov (taker_none nf) T.hd fun h' tk' dx k dn hx hn => ?_
  have fr : H dx = none := I.hok.fresh dn
  have ne : dx ≠ a := fun z => Nat.lt_irrefl _ (Nat.lt_of_lt_of_le (by rw [← z] at ho; exact Heap.lt_size ho) dn)
  -- the dict is laid ahead of the object's change
  have g1 : (h'.update a fun _ => PySem.XG.rec_ C t1 none).get? a = some (PySem.XG.rec_ C t1 none) := Heap.get?_update_self _ hx rfl
  have g2 : ∀ b, b ≠ a → (h'.update a fun _ => PySem.XG.rec_ C t1 none).get? b = h'.get? b := fun b nb => Heap.get?_update_ne _ _ _ _ nb
  have I1 : Inv X pins σ (upd H dx (exd dx [(f, y)])) ⟨h'.update a fun _ => PySem.XG.rec_ C t1 none, g, d, tk', os⟩ := by
    refine I.laid (t' := tk') (a := dx) (o := exd dx [(f, y)]) (h' := h'.update a fun _ => PySem.XG.rec_ C t1 none) (fun b o q => ?_) dn (exd_ok (hn.at fun o q => (g2 dx ne).trans q) fun z => ?_)
    · by_cases hb : b = a
      · subst hb
        rw [show hp.get? b = some o from q] at ho
        cases ho
        exact g1
      · exact (g2 b hb).trans (k b o hb q)
    · have z2 := relO_put (f := f) (fs := []) (mA := fun _ => none) ry (fun _ => trivial) z
      exact z2
  have I2 := I1.write (t' := tk') (x := a) (e := a) (o := exo a C (some dx)) (h' := h') (by rw [upd_ne ne.symm, e]; exact True.intro) (.inl rfl) (fun b o nb q => (g2 b nb).symm.trans q) ⟨_, hx⟩ (exo_ok hx)
  exact h dx _ fr ne I2
theorem put_next (T : ExG X.K C) (I : Inv X pins σ H s) (e : H a = some (exo a C (some dx))) (ed : H dx = some (exd dx fs)) (hl : fs.length ≤ 900) (nf : PySem.W.findIn X.K (.ref C) f = some none) (ry : RelV y u)
    (h : ∀ s', Inv X pins σ (upd H dx (exd dx ((f, y) :: fs))) s' → Q () s') : wpAny (model X.prog X.w) A (setAttr (.ref a) f u) Q E s := by
  obtain ⟨B, newId, initId, bmB, FB, SF, ini, ov⟩ := T.over
  obtain ⟨t1, ho⟩ := exo_at I.hok e
  obtain ⟨mA, hns, rel⟩ := exd_at I.hok ed
  have wi := within_of rel
  obtain ⟨hp, g, d, t, os⟩ := s
  obtain ⟨oD, _, _, D, _, _⟩ := hns.count wi
  refine PySem.W.set_plain I.kIn (ox := PySem.XG.rec_ C t1 (some dx)) (od := some oD) ⟨ho, rfl, rfl, D⟩ T.sa ?_
  refine PySem.XG.next_store SF I.kIn ho hns wi (by rw [List.length_map]; omega) ov (taker_none nf) T.hd fun h' tk' k hn => ?_
  have there : ∃ o, h'.get? dx = some o := let ⟨o, _, _, q, _⟩ := hn; ⟨o, q⟩
  exact h _ (I.write (t' := tk') (x := dx) (e := dx) (o := exd dx ((f, y) :: fs)) (by rw [ed]; exact True.intro) (.inl rfl) k there (exd_ok hn (relO_put ry rel)))
end
/-- self.f = e in such a class's __init__ -/
def tPut (K : PySem.W.Frag) (f : Str) (to te : TE) : TS := fun D σ H => te σ H fun y H1 => to σ H1 fun x H2 => ∃ a C : Addr, x = .ref a ∧ ExG K C ∧ PySem.W.findIn K (.ref C) f = some none ∧
  ((H2 a = some (exo a C none) ∧ ∀ dx, H2 dx = none → dx ≠ a → D.nx σ (upd (upd H2 dx (exd dx [(f, y)])) a (exo a C (some dx)))) ∨
    ∃ (dx : Addr) (fs : List (Str × V)), H2 a = some (exo a C (some dx)) ∧ H2 dx = some (exd dx fs) ∧ fs.length ≤ 900 ∧ D.nx σ (upd H2 dx (exd dx ((f, y) :: fs))))
theorem ps_put {X : Cx} {o e : Expr} {to te : TE} {f : Str} {p' pos : Pos} (ho : PE X o to) (he : PE X e te) (hs : swapsWith e (some (.Attribute o f p')) pos.line X.env = pure false := by rfl) : PS X (.Assign [.Attribute o f p'] e pos) (tPut X.K f to te) := by
  constructor
  intro pins s σ H D I h
  refine plainObj_wpAny_Assign_Attribute (thn (he.run pins s σ H _ I h) fun v s1 hv => ?_) hs
  obtain ⟨y, H1, I1, ry, q1⟩ := hv
  refine thn (ho.run pins s1 σ H1 _ I1 q1) fun u s2 hu => ?_
  obtain ⟨x, H2, I2, rx, a, C, ex, T, nf, q⟩ := hu
  subst ex
  obtain rfl : u = Value.ref a := rx
  rcases q with ⟨ea, q⟩ | ⟨dx, fs, ea, ed, hl, q⟩
  · exact put_first T I2 ea nf ry fun dx s' n ne J => ⟨σ, _, J, q dx n ne⟩
  · exact put_next T I2 ea ed hl nf ry fun s' J => ⟨σ, _, J, q⟩
/-- C(e, ..) -/
def tNewX (C : Addr) (sp : Sp) (ta : TA) : St → Hp → XK → Prop := fun σ H Q => ta σ H fun vs H1 => vs.length ≤ 1000 ∧ ∀ a, H1 a = none → sp (.ref a :: vs) (upd H1 a (exo a C none))
  (fun v H2 => v = .non ∧ ∃ (d : Addr) (fs : List (Str × V)), H2 a = some (exo a C (some d)) ∧ H2 d = some (exd d fs) ∧ H1 d = none ∧ Q (.ref C) (some d) (upd (del H2 a) d (.xd fs))) (fun _ _ _ => False)
theorem pmk_new {X : Cx} {x : Str} {C fI : Addr} {k : Nat} {fd : FuncData} {ps : List Str} {sp : Sp} {e : Expr} {es : List Expr} {ta : TA} {p pos : Pos} (T : ExG X.K C) (iC : PySem.W.findIn X.K (.ref C) "__init__" = some (some (.ref fI))) (tI : PySem.W.typeIn X.K (.ref fI) = some (.type "function"))
    (F1 : FnOk X.prog X.w X.K X.mg X.base CX0 k fI fd ps sp) (hr : Room (k + 1) X.A) (hb : Binds X.K fd ps []) (hg : Gl X x) (hm : X.mg x = some (.ref C)) (ha : PA X (e :: es) ta)
    (hdb : (x == ("__debug__" : Str)) = false := by decide) (he : starEach (e :: es) X.env = (false, eval e X.env) :: starEach es X.env := by rfl) (hpl : (backTo pos (starEach es X.env)).any (·.1) = false := by rfl) :
    PMk X (.Call (.Name x p) (e :: es) [] pos) (tNewX C sp ta) := by
  intro pins s σ H Q I h
  obtain ⟨B, newId, initId, bmB, FB, SF, ini, ov⟩ := T.over
  refine wpAny_Call_Name_kw (ld_glob I hg hm ?_ hdb)
  refine PySem.W.callWith_K (h₀ := X.base) I.ok.mod.kin T.kC (thn (ha.run pos pins s σ H _ I h) fun us s1 hu => ?_) he hpl
  obtain ⟨vs, H1, I1, r1, hz, q1⟩ := hu
  refine ⟨I1.kIn, ?_⟩
  obtain ⟨nm, N, qn, bs, bm, hdct, sn, sub, ab, col, dd, k0, k1, k2, k3, k5, hC, hT⟩ := PySem.W.excInit_of I1.kIn ini
  obtain ⟨hp, g, dr, tk, os⟩ := s1
  have up1 : hp.objs.size ≤ (hp.objs.size + 1) := Nat.le_succ _
  have fr : H1 (hp.objs.size + 1) = none := I1.hok.fresh up1
  have got : ((hp.push (PySem.W.kdv_tup us)).push (PySem.HandSPX.excO C hp.objs.size)).get? (hp.objs.size + 1) = some (PySem.HandSPX.excO C hp.objs.size) := by heap_get
  have two : ∀ b o, hp.get? b = some o → ((hp.push (PySem.W.kdv_tup us)).push (PySem.HandSPX.excO C hp.objs.size)).get? b = some o := fun b o q => Heap.get?_push_of_some _ (Heap.get?_push_of_some _ q)
  have I2 := I1.laid (t' := tk) (a := (hp.objs.size + 1)) (o := exo (hp.objs.size + 1) C none) (h' := (hp.push (PySem.W.kdv_tup us)).push (PySem.HandSPX.excO C hp.objs.size)) two up1 (exo_ok got)
  have want := q1 (hp.objs.size + 1) fr
  have r2 : Vals (V.ref (hp.objs.size + 1) :: vs) (Value.ref (hp.objs.size + 1) :: us) := .cons rfl r1
  have len : (Value.ref (hp.objs.size + 1) :: us).length = ps.length := r2.length.symm.trans (F1.len _ _ _ _ want)
  have short : us.length ≤ sizeLine := by
    rw [← Paired.length r1, sizeLine_eq]
    omega
  have hbb := hb _ (Value.ref (hp.objs.size + 1) :: us) I2.kIn (by rw [List.append_nil]; exact len)
  rw [List.append_nil] at hbb
  have run := F1.run _ X.stack _ _ ⟨Value.ref (hp.objs.size + 1) :: us, []⟩ (Value.ref (hp.objs.size + 1) :: us) _ _ (fun _ _ _ => False) (hr.make C us []) (I2.env0.make C us []) hbb r2 want
  refine wpAny_call (PySem.HandSPX.call_own FB hT hC (PySem.W.looks_findIn I1.kIn iC) (fun self => PySem.W.bind_fn I1.kIn self tI) short (codeAny_mono run fun r s' z => ?_))
  cases r with
  | error er => exact z.elim
  | ok fl =>
    cases fl with
    | next => exact z.elim
    | brk => exact z.elim
    | cont => exact z.elim
    | ret u =>
      obtain ⟨v, H2, os2, bare, un, hok, rv, ev, d, fs, ea, ed, hd1, q2⟩ := z
      subst ev
      obtain ⟨h2, g2, d2, t2, os'⟩ := s'
      exact ⟨rv, mk_end (raises_own T.exC T.tyC) I1 up1 two un hok os2 bare ea ed hd1 q2⟩
end L2
/-! an exception caught by a clause of two classes, its fields read, also in a def that it is handed to; a lambda called in a try -/
namespace PySem
namespace XG
theorem fly_on {base h h' : Heap} {l : List Env} {e : Addr} {Z : Obj → Prop} (F : HandSPX.FlyingZ base l e Z h) (k : ∀ b o, h.get? b = some o → h'.get? b = some o) : HandSPX.FlyingZ base l e Z h' := by
  obtain ⟨f1, f2, f3, oe, ws, T, oT, ts, g1, g2, g3, g4, g5, g6, g7, g8, g9⟩ := F
  exact ⟨fun b o q => k b o (f1 b o q), f2, f3.of_keeps fun b o q _ => ⟨o, k b o q, rfl⟩, oe, ws, T, oT, ts, k _ _ g1, g2, g3, g4, g5, g6, k _ _ g7, g8, g9⟩
end XG
end PySem
namespace L2
open PySem PySem.Spec PyProof.Rows L2H
/-! ### a field of a pinned exception -/
/-- the pinned exception: class C, its dict at dd -/
structure PinX (p : Addr × Obj) (C dd : Addr) : Prop where
  z : Zc (.ref C) (some dd) p.2
  f : ∃ vs, p.2.data = .fields vs
def tPinf (K : PySem.W.Frag) (p : Addr × Obj) (f : Str) (te : TE) : TE := fun σ H Q => te σ H fun x H1 => x = .ref p.1 ∧ ∃ (C dd : Addr) (fs : List (Str × V)) (v : V), PinX p C dd ∧ XfC K C ∧ PySem.W.findIn K (.ref C) f = some none ∧ H1 dd = some (.xd fs) ∧ fs.lookup f = some v ∧ Q v H1
theorem pe_pinf {X : Cx} {p : Addr × Obj} {e : Expr} {te : TE} {pos : Pos} {n : Str} (hp : p ∈ X.pn) (he : PE X e te) (hb : attributeBase e n X.env (eval e X.env) = eval e X.env := by rfl) : PE X (.Attribute e n pos) (tPinf X.K p n te) := by
  constructor
  intro pins s σ H Q I h
  refine attr_of hb (thn (he.run pins s σ H _ I h) fun u s1 hu => ?_)
  obtain ⟨x, H1, I1, rx, ex, C, dd, fs, v, P, T, nf, ea, l, q⟩ := hu
  subst ex
  obtain rfl : u = Value.ref p.1 := rx
  have at_ := (I1.pin p (List.mem_append_left _ hp)).1
  obtain ⟨vs, hd⟩ := P.f
  have held : ObjOk X.prog X.w H1 s1.heap dd (.xd fs) := I1.hok dd _ ea
  obtain ⟨mA, hns, rel⟩ := held
  obtain ⟨od, ho, hl⟩ := lookIn_ns hns
  obtain ⟨w, hw, rw⟩ := RelO.some_of (v := v) (o := mA n) (by rw [← l]; exact rel n)
  have J : PySem.W.InstAt s1.heap p.1 p.2 C (some od) := by
    refine ⟨at_, P.z.1, ?_, by rw [P.z.2]; exact ho⟩
    unfold PySem.W.notCls
    rw [hd] <;> rfl
  exact HandSPX.exc_get I1.kIn J T.ga T.gg T.exC (PySem.W.findObj_own T.hdC nf rfl (by rw [hl, hw])) (handed_of rw) ⟨v, H1, I1.tok _, rw, q⟩
/-! ### a def called in an except suite that raises nothing -/
structure FnQ (P : Program) (w : World) (K : PySem.W.Frag) (mg : Str → Option Value) (base : Heap) (k : Nat) (f : Addr) (fd : FuncData) (ps : List Str) (sp : Addr × Obj → Sp) : Prop where
  len : ∀ p vs H Q E, sp p vs H Q E → vs.length = ps.length
  run : ∀ (A : Around) (outer : List Env) (s : Shared) (H : Hp) (args : Args) (us : List Value) (vs : List V) (Q : VK) (E : XK) (p : Addr × Obj), RoomH k A → PinOk outer H s p → Env0 P w K mg base A outer s H → BindsTo s fd args (ps.zip us) → Vals vs us → sp p vs H Q E →
    codeAny (model P w) A (.call (.ref f) args) (CR CX0 outer P w H s Q E) s
theorem quiet_ok {P : Program} {w : World} {K : PySem.W.Frag} {mg : Str → Option Value} {base : Heap} {x qual : Str} {st : Stmt} {f : Addr} {fd : FuncData} {N ps : List Str} {k : Nat} {sp : Addr × Obj → Sp} (F : Fun K x qual st f fd) (S : FnScope N ps (defScope st)) (len : ∀ p vs H Q E, sp p vs H Q E → vs.length = ps.length)
    (hbody : ∀ (cdv : Value) (A : Around) (outer : List Env) (s : Shared) (H : Hp) (vs : List V) (Q : VK) (E : XK) (p : Addr × Obj), RoomH k (A.deeper (envOfC qual (defScope st) s.heap.objs.size f cdv)) → sp p vs H Q E →
      ∃ t, PSs (cxH CX0 P w K mg base N qual (defScope st) f cdv A outer s H E p) (defBody st) t ∧ t { nx := fun _ H' => Q .non H', rt := Q } (L2.start N vs) H) : FnQ P w K mg base (k + 1) f fd ps sp := by
  obtain ⟨oc, od, kV, doc, pm, an, cdv, ct, osl, rfl, lk, hcd⟩ := F.ex
  refine ⟨len, fun A outer s H args us vs Q E p hr pin e0 hb r hsp => ?_⟩
  have inK : K.In s.heap := e0.mod.kin.keeps fun b o e => (e0.bs b o e).1
  have kinds : ∀ y ∈ ps.zip us, (defScope st).names.lookup y.1 = some .local ∨ ((defScope st).names.lookup y.1 = some .cell ∧ ((cellsFrom (s.heap.objs.size + 1) (defScope st).names []).lookup y.1).isSome = true) := by
    rintro ⟨n, v⟩ hy
    rcases S.par n (List.of_mem_zip hy).1 with q | q
    · exact .inl q
    · exact .inr ⟨q, PySem.W.cellsFrom_some _ _ _ (.inl q)⟩
  refine codeAny_call_function hr.depth (inK _ _ lk) rfl S.co S.gen rfl (PySem.W.codeRec_of inK hcd) (hb _ _ _ _ ?_)
  refine wpAny_newFunctionEnv_cells S.kind kinds fun env he s1 x => ?_
  subst he
  refine ⟨(e0.mod.nolimit.keeps fun b o e => (e0.bs b o e).1).keeps x.toInCall.keep, codeAny_func ?_⟩
  obtain ⟨t, ht, hq⟩ := hbody cdv A outer s H vs Q E p (hr.deeper _) hsp
  have I := inv_startH (CX := CX0) (K := K) (mg := mg) (base := base) (P := P) (w := w) (E := E) (A := A) (qual := qual) (f := f) (cd := cdv) S pin e0 (len _ _ _ _ _ hsp) r x
  refine wpAny_mono (ht.run [] s1 (L2.start N vs) H _ I hq) (fun fl s' hs => ?_) fun e s' hs => hs
  cases fl with
  | ret u =>
    obtain ⟨v, σ', H', J, rv, q⟩ := hs
    exact ⟨v, H', J.os, J.bare, J.base, J.hok, rv, q⟩
  | next =>
    obtain ⟨σ', H', J, q⟩ := hs
    exact ⟨V.non, H', J.os, J.bare, J.base, J.hok, rfl, q⟩
  | brk =>
    obtain ⟨_, _, _, q⟩ := hs
    exact False.elim q
  | cont =>
    obtain ⟨_, _, _, q⟩ := hs
    exact False.elim q
theorem pe_callQ {X : Cx} {k : Nat} {f : Addr} {fd : FuncData} {ps : List Str} {sp : Addr × Obj → Sp} {x : Str} {q pos : Pos} {e : Expr} {es : List Expr} {t : TA} {p : Addr × Obj} (hp : p ∈ X.pn) (F : FnQ X.prog X.w X.K X.mg X.base k f fd ps sp) (hr : RoomH k X.A) (hg : Gl X x) (hm : X.mg x = some (.ref f)) (hk : PySem.W.keepIn X.K (.ref f) = true) (hb : Binds X.K fd ps [])
    (ha : PA X (e :: es) t) (hdb : (x == ("__debug__" : Str)) = false := by decide) (he : starEach (e :: es) X.env = (false, eval e X.env) :: starEach es X.env := by rfl) (hpl : (backTo pos (starEach es X.env)).any (·.1) = false := by rfl) :
    PE X (.Call (.Name x q) (e :: es) [] pos) (fun σ H Q => t σ H fun vs H1 => sp p vs H1 Q E0) := by
  constructor
  intro pins s σ H Q I h
  refine wpAny_Call_Name_kw (ld_glob I hg hm ?_ hdb)
  refine PySem.W.callWith_K (h₀ := X.base) I.ok.mod.kin hk (thn (ha.run pos pins s σ H _ I h) fun us s1 hu => ?_) he hpl
  obtain ⟨vs, H1, I1, r, hq⟩ := hu
  refine ⟨I1.kIn, ?_⟩
  have b := hb s1 us I1.kIn (by rw [List.append_nil, ← r.length]; exact F.len _ _ _ _ _ hq)
  rw [List.append_nil] at b
  obtain ⟨p1, p2, p3, p4, p5⟩ := I1.pin p (List.mem_append_left _ hp)
  have pin : PinOk X.stack H1 s1 p := ⟨p1, p2, fun hm => (List.mem_cons.mp (I1.stkSub p.1 hm)).elim p3 p4, p5⟩
  refine wpAny_call (codeAny_mono (F.run X.A X.stack s1 H1 ⟨us, []⟩ us vs Q E0 p hr pin I1.env0 b r hq) fun r s' z => ?_)
  cases r with
  | error e => exact (show False from z).elim
  | ok fl =>
    cases fl with
    | ret u => exact I1.after z
    | next => exact False.elim z
    | brk => exact False.elim z
    | cont => exact False.elim z
/-! ### try: body, except (x1, x2) as n: suite; nothing else flies -/
def wTwo (K : PySem.W.Frag) (c1 c2 : Value) (i : Nat) (ts : Addr → Value → Option Addr → TS) (D : Ends) : WX := fun cls d σ H => PySem.W.exmAny K cls [c1, c2] = some true ∧
  ∀ a, H a = none → i < σ.length → ts a cls d { nx := fun σ' H' => D.nx (σ'.set i none) H', rt := D.rt, bk := fun σ' H' => D.bk (σ'.set i none) H', ct := fun σ' H' => D.ct (σ'.set i none) H' } (σ.set i (some (.ref a))) H
section
variable {X : Cx} {x1 x2 n : Str} {c1 c2 : Value} {i j : Nat} {body suite : List Stmt} {b₀ : Stmt} {q1 q2 q3 pos pos' : Pos} {tb : WX → TS} {ts : Addr → Value → Option Addr → TS}
theorem ps_try_two (hs : X.stack = X.env :: X.outer) (hf : X.env.frame = some X.env.locals) (hN : X.N.Nodup) (hi : X.N[i]? = some n) (hln : X.env.kindOf n = some .local)
    (g1 : Gl X x1) (d1 : (x1 == ("__debug__" : Str)) = false) (m1 : X.mg x1 = some c1) (g2 : Gl X x2) (d2 : (x2 == ("__debug__" : Str)) = false) (m2 : X.mg x2 = some c2)
    (hb : ∀ (W : WX) (pn : List (Addr × Obj)) (xe : Value → Shared → Prop), Takes (X.tr pn xe) W → PSs (X.tr pn xe) body (tb W))
    (hsu : ∀ (a : Addr) (oe : Obj) (cls : Value) (d : Option Addr) (pn : List (Addr × Obj)), Zc cls d oe → (∃ vs, oe.data = .fields vs) → PSs (X.suite a ((a, oe) :: pn)) (b₀ :: suite) (ts a cls d)) :
    PS X (.Try body [.ExceptHandler (some (.Tuple [.Name x1 q1, .Name x2 q2] j q3)) (some n) (b₀ :: suite) pos'] [] [] pos) (fun D σ H => tb (wTwo X.K c1 c2 i ts D) D σ H) := by
  constructor
  intro pins s σ H D I h
  have ok := I.ok
  refine wpAny_Try_except (wpAny_mono ((hb (wTwo X.K c1 c2 i ts D) (X.pn ++ pins) _ ?tk).run [] s σ H D (I.toTry _) h) ?_ fun e s1 he => he)
  case tk =>
    rintro u s' ⟨a, B, sI, pins', σ', H', cls, d, rfl, J', nb, up, sky, na, os, ag, ex, want⟩
    have J : Inv X pins σ' H' sI := J'.ofTry ok
    have hfr : X.A.frames = some (X.env :: X.outer) := by rw [ok.frames, hs]
    rw [show (X.tr (X.pn ++ pins) _).stack = X.env :: X.outer from hs] at sky
    show wpAny (model X.prog X.w) X.A (noteFrame (.ref a) X.env) _ _ _
    refine Sky.land Zc.steady hfr hf sky fun h3 fl3 up3 => ?_
    have J3 : Inv X pins σ' H' { s' with heap := h3 } := J.landed nb fl3.1 (up.trans up3) os ag
    obtain ⟨oe3, vs3, he3, hz3, hd3⟩ := fl3.there
    -- the exception is no frame
    have off : a ∉ frs (X.env :: X.outer) := fun hm => by
      obtain ⟨_, o', e', hnf⟩ := fl3.2.2.1.mem hm
      rw [he3] at e'
      cases e'
      exact hnf _ hd3
    have nL : a ≠ X.env.locals := fun z => off (List.mem_filterMap.mpr ⟨X.env, List.mem_cons_self, by rw [hf, z]⟩)
    have nF : a ∉ X.fs := fun hm => by
      obtain ⟨e, he, q⟩ := List.mem_filterMap.mp hm
      exact off (List.mem_filterMap.mpr ⟨e, List.mem_cons_of_mem _ he, q⟩)
    have S3 := J3.suite he3 hd3 na nL nF
    refine PySem.W.exc_clause_as ?_
    refine wpAny_Tuple (wpAny_items_cons (ld_glob (X := X.suite a ((a, oe3) :: (X.pn ++ pins))) S3 g1 m1 ?_ d1))
    refine wpAny_items_cons (ld_glob (X := X.suite a ((a, oe3) :: (X.pn ++ pins))) S3 g2 m2 ?_ d2)
    refine wpAny_items_nil ⟨by size_fits, ?_⟩
    have kp : ∀ q o, h3.get? q = some o → (h3.push { cls := .type "tuple", data := .seq [c1, c2].toArray }).get? q = some o := fun _ _ z => Heap.get?_push_of_some _ z
    have LT : PySem.W.Looks (model X.prog X.w) h3 (typeOf (.ref a)) cls := fun A Q E s k q => wpAny_typeOf_ref (k _ _ he3) (by rw [hz3.1]; exact q)
    refine ⟨true, PySem.W.exm_tup2 (J3.kIn.keeps kp) (LT.keeps kp) (Heap.get?_push_size h3 rfl) ex, ?_⟩
    rw [if_pos rfl]
    have up3' := (up.trans up3).trans (Heap.UpToSlots.of_keeps kp)
    refine HandSPX.lands_againZ (PySem.XG.fly_on fl3 kp) fun h4 fl4 up4 => ?_
    have J4 : Inv X pins σ' H' { s' with heap := h4 } := J.landed nb fl4.1 (up3'.trans up4) os ag
    obtain ⟨oe4, vs4, he4, hz4, hd4⟩ := fl4.there
    have S4 := J4.suite he4 hd4 na nL nF
    refine store_ok (X := X.suite a ((a, oe4) :: (X.pn ++ pins))) (v := .ref a) S4 hN hi (.inl hln) rfl (fun s5 S5 => ?_) (.inr hln)
    refine wpAny_mono ((hsu a oe4 cls d (X.pn ++ pins) hz4 ⟨_, hd4⟩).run [] s5 _ H' _ S5 (want a na (by rw [J.len]; exact (List.getElem?_eq_some_iff.mp hi).1))) (fun f s6 hsp => ?_) fun _ _ z => False.elim z
    have gone : ∀ {σ6 : St} {H6 : Hp} {Q : Shared → Prop}, Inv (X.suite a ((a, oe4) :: (X.pn ++ pins))) [] σ6 H6 s6 → (∀ s7, Inv X pins (σ6.set i none) H6 s7 → Q s7) →
        wpAny (model X.prog X.w) X.A (do bindName X.env n .none; unbindBehindTheSuite X.env n pos') (fun _ s7 => Q s7) X.xe s6 := fun S6 hq => gone_ok (S6.unsuite ok) hN hi hln hq
    cases f with
    | ret u =>
      obtain ⟨v6, σ6, H6, S6, r6, q6⟩ := hsp
      exact gone S6 fun s7 J7 => ⟨_, _, _, J7, r6, q6⟩
    | next =>
      obtain ⟨σ6, H6, S6, q6⟩ := hsp
      exact gone S6 fun s7 J7 => ⟨_, _, J7, q6⟩
    | brk =>
      obtain ⟨σ6, H6, S6, q6⟩ := hsp
      exact gone S6 fun s7 J7 => ⟨_, _, J7, q6⟩
    | cont =>
      obtain ⟨σ6, H6, S6, q6⟩ := hsp
      exact gone S6 fun s7 J7 => ⟨_, _, J7, q6⟩
  · intro f s1 hsp
    cases f with
    | next =>
      obtain ⟨σ', H', J', q⟩ := hsp
      exact wpAny_execs_nil ⟨σ', H', J'.ofTry ok, q⟩
    | ret u =>
      obtain ⟨v, σ', H', J', r, q⟩ := hsp
      exact ⟨v, σ', H', J'.ofTry ok, r, q⟩
    | brk =>
      obtain ⟨σ', H', J', q⟩ := hsp
      exact ⟨σ', H', J'.ofTry ok, q⟩
    | cont =>
      obtain ⟨σ', H', J', q⟩ := hsp
      exact ⟨σ', H', J'.ofTry ok, q⟩
end
end L2
/-! what the laws' proofs share about errors: their promises, the fields, a lambda called in a try -/
namespace Th
open PySem PySem.Spec PyProof.Rows L2
/-! ### what stays but for tables of code and exceptions being made -/
def Plain (o : HO) : Prop := (∀ φ, o ≠ .ext φ) ∧ ∀ ps, o ≠ .tbl ps
def KeepD (H H' : Hp) : Prop := ∀ b o, H b = some o → Plain o → H' b = some o
theorem KeepD.of {H H' : Hp} (s : Same H H') : KeepD H H' := fun b o e _ => s b o e
theorem KeepD.trans {H H1 H2 : Hp} (a : KeepD H H1) (b : KeepD H1 H2) : KeepD H H2 := fun c o e p => b c o (a c o e p) p
theorem KeepD.refl (H : Hp) : KeepD H H := fun _ _ e _ => e
theorem keepD_ext {H H' : Hp} (e : LamX.ExtN H H') : KeepD H H' := fun b o h p => e b o h p.2
theorem plain_lst (xs : List V) : Plain (.lst xs) := ⟨fun φ z => (by cases z), fun ps z => (by cases z)⟩
theorem plain_tup (xs : List V) : Plain (.tup xs) := ⟨fun φ z => (by cases z), fun ps z => (by cases z)⟩
theorem plain_frz (o : Obj) (u : HO) : Plain (.frz o u) := ⟨fun φ z => (by cases z), fun ps z => (by cases z)⟩
theorem plain_ins (C dx : Addr) (fs : List (Str × V)) : Plain (.ins C dx fs) := ⟨fun φ z => (by cases z), fun ps z => (by cases z)⟩
theorem plain_dK (kvs : List (Key × V)) : Plain (.dK kvs) := ⟨fun φ z => (by cases z), fun ps z => (by cases z)⟩
theorem plain_dT (kvs : List (List Key × V)) : Plain (.dT kvs) := ⟨fun φ z => (by cases z), fun ps z => (by cases z)⟩
theorem plain_set (S : Int → Bool) (n : Nat) : Plain (.set S n) := ⟨fun φ z => (by cases z), fun ps z => (by cases z)⟩
section
variable {K : PySem.W.Frag} {H H' : Hp}
theorem KeepD.l (e : KeepD H H') {a : Addr} {xs : List V} (h : SqL K H a xs) : SqL K H' a xs := by
  rcases h with (h | ⟨o, h⟩) | h
  · exact .inl (.inl (e _ _ h (plain_lst xs)))
  · exact .inl (.inr ⟨o, e _ _ h (plain_frz o _)⟩)
  · exact .inr h
theorem KeepD.t (e : KeepD H H') {a : Addr} {xs : List V} (h : SqT K H a xs) : SqT K H' a xs := by
  rcases h with (h | ⟨o, h⟩) | h
  · exact .inl (.inl (e _ _ h (plain_tup xs)))
  · exact .inl (.inr ⟨o, e _ _ h (plain_frz o _)⟩)
  · exact .inr h
theorem KeepD.ty (e : KeepD H H') {v : V} {t : Value} (h : TyX K H v t) : TyX K H' v t := by
  cases h with
  | byt b => exact .byt b
  | kList h c => exact .kList h c
  | kTuple h c => exact .kTuple h c
  | kDict h c => exact .kDict h c
  | set h => exact .set (e _ _ h (plain_set _ _))
  | fTuple h => exact .fTuple (e _ _ h (plain_frz _ _))
  | fDict h => exact .fDict (e _ _ h (plain_frz _ _))
  | base b =>
    refine .base ?_
    cases b with
    | non => exact .non
    | bl x => exact .bl x
    | int i => exact .int i
    | str x => exact .str x
    | flt x => exact .flt x
    | lst h => exact .lst (e _ _ h (plain_lst _))
    | frz h => exact .frz (e _ _ h (plain_frz _ _))
    | tup h => exact .tup (e _ _ h (plain_tup _))
    | dK h => exact .dK (e _ _ h (plain_dK _))
    | dT h => exact .dT (e _ _ h (plain_dT _))
    | ins h cl ha hn htk hm => exact .ins (e _ _ h (plain_ins _ _ _)) cl ha hn htk hm
mutual
theorem Da.keepD (e : KeepD H H') : ∀ (d : PyData) (v : V), Da K H v d → Da K H' v d
  | .none, _, h => by cases h; exact .non
  | .bool b, _, h => by cases h; exact .bl b
  | .int i, _, h => by cases h; exact .int i
  | .str x, _, h => by cases h; exact .str x
  | .list ds, _, h => by
    cases h with
    | lst hs ht ha => exact .lst (e.l hs) (e.ty ht) (DaAll.keepD e ds _ ha)
  | .tuple ds, _, h => by
    cases h with
    | tup hs ht ha => exact .tup (e.t hs) (e.ty ht) (DaAll.keepD e ds _ ha)
  | .dict _, _, h => by cases h
theorem DaAll.keepD (e : KeepD H H') : ∀ (ds : List PyData) (vs : List V), DaAll K H vs ds → DaAll K H' vs ds
  | [], _, h => by cases h; exact .nil
  | d :: ds, _, h => by
    cases h with
    | cons h1 h2 => exact .cons (Da.keepD e d _ h1) (DaAll.keepD e ds _ h2)
end
theorem Da.kd {v : V} {d : PyData} (h : Da K H v d) (e : KeepD H H') : Da K H' v d := Da.keepD e d v h
end
theorem KeepD.drw {D : DS} {H H' : Hp} (e : KeepD H H') (d : Drw D H) : Drw D H' := by
  obtain ⟨ne, sc, few, i, v, m, c, st, r⟩ := d
  exact ⟨ne, e _ _ sc (plain_lst _), few, i, v, m, c, e _ _ st (plain_lst _), r⟩
theorem KeepD.go {D : DS} {H H' : Hp} (d : Drw D H) (g : Go D H H') {a : Addr} {o : HO} (h : H a = some o) (ne : a ≠ D.p) : H' a = some o := g.old ne h
theorem Tabs.sm {T : List (Addr × Str)} {H H' : Hp} (t : LamX.Tabs T H) (s : Same H H') : LamX.Tabs T H' := t.ext fun b o e => s b o e
theorem Tabs.go {T : List (Addr × Str)} {D : DS} {H H' : Hp} (t : LamX.Tabs T H) (d : Drw D H) (g : Go D H H') : LamX.Tabs T H' := fun p hp => by
  obtain ⟨ps, h1, h2, h3⟩ := t p hp
  obtain ⟨_, _, _, i, v, m, c, st, _⟩ := d
  have n1 : p.1 ≠ D.p := fun z => by
    rw [z, st] at h1
    cases h1
  refine ⟨ps, g.old n1 h1, h2, fun pos cv hc => ?_⟩
  obtain ⟨c', e1, e2⟩ := h3 pos cv hc
  have n2 : c' ≠ D.p := fun z => by
    rw [z, st] at e2
    unfold LamX.CodeO at e2
    cases e2
  exact ⟨c', e1, g.old n2 e2⟩

/-! ### errors -/
/-- an error that flies: its class by name, its fields -/
structure IsExc (K : PySem.W.Frag) (mg : Str → Option Value) (code : Str) (fs : List (Str × V)) (cls : Value) (d : Option Addr) (H : Hp) : Prop where
  ex : ∃ C dd : Addr, cls = .ref C ∧ d = some dd ∧ XfC K C ∧ (∀ f ∈ fs.map (·.1), PySem.W.findIn K (.ref C) f = some none) ∧ H dd = some (.xd fs) ∧
    ∀ c1 c2, mg "FindError" = some (.ref c1) → mg "Missing" = some (.ref c2) → PySem.W.exmAny K cls [.ref c1, .ref c2] = some true
  code : fs.lookup ("code" : Str) = some (V.str code)
/-- an error class of the program; st: its __init__ -/
structure ErrC (K : PySem.W.Frag) (mg : Str → Option Value) (x : Str) (qual : Str) (st : Stmt) (ps : List Str) (fns : List Str) (C fI : Addr) (fd : FuncData) : Prop where
  m : mg x = some (.ref C)
  g : ExG K C
  xf : XfC K C
  nf : ∀ f ∈ fns, PySem.W.findIn K (.ref C) f = some none
  ini : PySem.W.findIn K (.ref C) "__init__" = some (some (.ref fI))
  tI : PySem.W.typeIn K (.ref fI) = some (.type "function")
  F : Fun K "__init__" qual st fI fd
  b : Binds K fd ps []
  ca : ∀ c1 c2, mg "FindError" = some (.ref c1) → mg "Missing" = some (.ref c2) → PySem.W.exmAny K (.ref C) [.ref c1, .ref c2] = some true
/-- __init__(self, v): self.fld = _copied(v); self.code = code -/
def spInit1 (K : PySem.W.Frag) (code fld : Str) (n : Nat) : Sp := fun vs H Q _ => ∃ (a C : Addr) (v : V) (d : PyData), vs = [.ref a, v] ∧ ExG K C ∧ PySem.W.findIn K (.ref C) fld = some none ∧ PySem.W.findIn K (.ref C) "code" = some none ∧ H a = some (exo a C none) ∧ Da K H v d ∧ LvN n d ∧
  ∀ (H1 : Hp) (v' : V) (dx : Addr), Same H H1 → Da K H1 v' d → H1 dx = none → dx ≠ a → Q .non (upd (upd (upd H1 dx (exd dx [(fld, v')])) a (exo a C (some dx))) dx (exd dx [("code", .str code), (fld, v')]))
theorem new1 {K : PySem.W.Frag} {mg : Str → Option Value} {x qual fld : Str} {st : Stmt} {ps fns : List Str} {C fI : Addr} {fd : FuncData} {n : Nat} {H : Hp} {v : V} {d : PyData} {W : XK} (E : ErrC K mg x qual st ps fns C fI fd) (h1 : fld ∈ fns) (h2 : ("code" : Str) ∈ fns) (hv : Da K H v d) (lv : LvN n d)
    (q : ∀ cls dd v' H', Same H H' → IsExc K mg x [("code", .str x), (fld, v')] cls dd H' → Da K H' v' d → W cls dd H') :
    ([v] : List V).length ≤ 1000 ∧ ∀ a, H a = none → spInit1 K x fld n (.ref a :: [v]) (upd H a (exo a C none)) (fun v H2 => v = .non ∧ ∃ (d : Addr) (fs : List (Str × V)), H2 a = some (exo a C (some d)) ∧ H2 d = some (exd d fs) ∧ H d = none ∧ W (.ref C) (some d) (upd (del H2 a) d (.xd fs))) (fun _ _ _ => False) := by
  refine ⟨by show 1 ≤ 1000; decide, fun a na => ⟨a, C, v, d, rfl, E.g, E.nf _ h1, E.nf _ h2, upd_same, hv.to (same_new na), lv, fun H1 v' dx s hv' nd ne => ?_⟩⟩
  have ea := s _ _ (upd_same (H := H) (a := a) (o := exo a C none))
  have nH : H dx = none := by
    cases e : H dx with
    | none => rfl
    | some o =>
      have := s dx o (by rw [upd_ne ne]; exact e)
      rw [nd] at this
      cases this
  refine ⟨rfl, dx, _, ?_, upd_same, nH, q _ _ v' _ (fun b o e => ?_) ⟨⟨C, dx, rfl, rfl, E.xf, fun f hf => ?_, upd_same, E.ca⟩, rfl⟩ ?_⟩
  · rw [upd_ne ne.symm, upd_same]
  · have nb : b ≠ a := fun z => by rw [z, na] at e; cases e
    have nb2 : b ≠ dx := fun z => by rw [z, nH] at e; cases e
    rw [upd_ne nb2, del_ne nb, upd_ne nb2, upd_ne nb, upd_ne nb2]
    exact s b o (by rw [upd_ne nb]; exact e)
  · rcases List.mem_cons.mp hf with e | m
    · rw [e]; exact E.nf _ h2
    · rw [List.mem_singleton.mp m]; exact E.nf _ h1
  · refine hv'.kd fun b o e p => ?_
    have nb : b ≠ a := fun z => by
      rw [z, ea] at e
      exact p.1 _ (Option.some.inj e).symm
    have nb2 : b ≠ dx := fun z => by rw [z, nd] at e; cases e
    rw [upd_ne nb2, del_ne nb, upd_ne nb2, upd_ne nb, upd_ne nb2]
    exact e
/-- what a def promises that may raise -/
def HasX (P : Program) (w : World) (K : PySem.W.Frag) (mg : Str → Option Value) (base : Heap) (x : Str) (st : Stmt) (k : Nat) (ps : List Str) (sp : Sp) : Prop :=
  ∃ (f : Addr) (fd : FuncData), FnOk P w K mg base (L2.CX P w) k f fd ps sp ∧ mg x = some (.ref f) ∧ PySem.W.keepIn K (.ref f) = true ∧ Binds K fd ps [] ∧ Fun K x x st f fd
def HasQ (P : Program) (w : World) (K : PySem.W.Frag) (mg : Str → Option Value) (base : Heap) (x : Str) (st : Stmt) (k : Nat) (ps : List Str) (sp : Addr × Obj → Sp) : Prop :=
  ∃ (f : Addr) (fd : FuncData), FnQ P w K mg base k f fd ps sp ∧ mg x = some (.ref f) ∧ PySem.W.keepIn K (.ref f) = true ∧ Binds K fd ps [] ∧ Fun K x x st f fd
def HasE (P : Program) (w : World) (K : PySem.W.Frag) (mg : Str → Option Value) (base : Heap) (x qual : Str) (st : Stmt) (ps fns : List Str) (k : Nat) (sp : Sp) : Prop :=
  ∃ (C fI : Addr) (fd : FuncData), ErrC K mg x qual st ps fns C fI fd ∧ FnOk P w K mg base CX0 k fI fd ps sp
theorem passF {X : Cx} : Passes (L2.CX X.prog X.w) X E0 := fun _ _ _ _ _ _ _ h => by
  obtain ⟨_, _, _, _, _, _, _, _, _, _, _, _, z⟩ := h
  exact z.elim
/-- what a try tells of an error: the word, its code, then its fields as Fl says -/
def TTry (K : PySem.W.Frag) (mg : Str → Option Value) (Fl : Str → List (Str × V) → List V → Prop) : (XK → Hp → VK → Prop) → Hp → VK → Prop := fun tl H Q =>
  tl (fun cls d H' => ∃ code fs ws, IsExc K mg code fs cls d H' ∧ Fl code fs ws ∧ ws.length ≤ 1000 ∧ ∀ r H'', Same H' H'' → H' r = none → H'' r = some (.tup (.str "no" :: .str code :: ws)) → Q (.ref r) H'')
    H fun v H1 => ([.str "told", v] : List V).length ≤ sizeLine ∧ ∀ r, H1 r = none → Q (.ref r) (upd H1 r (.tup [.str "told", v]))
/-- the fields of an error in hand, in a tuple -/
def spFields (K : PySem.W.Frag) (mg : Str → Option Value) (Fl : Str → List (Str × V) → List V → Prop) : Addr × Obj → Sp := fun p vs H Q _ => ∃ (C dd : Addr) (code : Str) (fs : List (Str × V)) (ws : List V), vs = [.ref p.1] ∧ PinX p C dd ∧ IsExc K mg code fs (.ref C) (some dd) H ∧ Fl code fs ws ∧ ws.length ≤ 1000 ∧
  ∀ r H', Same H H' → H r = none → H' r = some (.tup ws) → Q (.ref r) H'
end Th
namespace Th
open PySem PySem.Spec PyProof.Rows L2
/-! ### some objects hidden -/
open Classical in
noncomputable def hidS (S : Addr → Prop) (H : Hp) : Hp := fun b => if S b then none else H b
theorem hidS_in {S : Addr → Prop} {H : Hp} {b : Addr} (h : S b) : hidS S H b = none := if_pos h
theorem hidS_out {S : Addr → Prop} {H : Hp} {b : Addr} (h : ¬ S b) : hidS S H b = H b := if_neg h
theorem hidS_some {S : Addr → Prop} {H : Hp} {b : Addr} {o : HO} (h : hidS S H b = some o) : ¬ S b ∧ H b = some o := by
  by_cases z : S b
  · rw [hidS_in z] at h
    cases h
  · rw [hidS_out z] at h
    exact ⟨z, h⟩
theorem hidS_same {S : Addr → Prop} {H : Hp} : Same (hidS S H) H := fun _ _ h => (hidS_some h).2
theorem hidS_mono {S : Addr → Prop} {H H' : Hp} (s : Same H H') : Same (hidS S H) (hidS S H') := fun b o h => by
  obtain ⟨n, e⟩ := hidS_some h
  rw [hidS_out n]
  exact s b o e
/-- one more is hidden, which was not there -/
theorem hidS_more {S : Addr → Prop} {H H' : Hp} {L : Addr} (s : Same H H') (n : H L = none) : Same (hidS S H) (hidS (fun b => S b ∨ b = L) H') := fun b o h => by
  obtain ⟨nb, e⟩ := hidS_some h
  have nL : b ≠ L := fun z => by rw [z, n] at e; cases e
  rw [hidS_out (fun z => z.elim nb nL)]
  exact s b o e
theorem hidS_less {S : Addr → Prop} {H : Hp} {L : Addr} : Same (hidS (fun b => S b ∨ b = L) H) (hidS S H) := fun b o h => by
  obtain ⟨nb, e⟩ := hidS_some h
  rw [hidS_out fun z => nb (.inl z)]
  exact e
theorem hidS_upd {S : Addr → Prop} {H : Hp} {L : Addr} {o : HO} : hidS (fun b => S b ∨ b = L) (upd H L o) = hidS (fun b => S b ∨ b = L) H := by
  funext b
  by_cases z : S b ∨ b = L
  · rw [hidS_in z, hidS_in z]
  · rw [hidS_out z, hidS_out z, upd_ne fun e => z (.inr e)]
end Th
namespace Th
open PySem PySem.Spec PyProof.Rows L2
def tPinA (K : PySem.W.Frag) (i : Nat) (a : Addr) (cls : Value) (d : Option Addr) (n : Str) : TE := fun σ H Q => σ[i]? = some (some (.ref a)) ∧ ∃ (C dd : Addr) (fs : List (Str × V)) (v : V), cls = .ref C ∧ d = some dd ∧ XfC K C ∧ PySem.W.findIn K (.ref C) n = some none ∧ H dd = some (.xd fs) ∧ fs.lookup n = some v ∧ Q v H
def tFieldsA (K : PySem.W.Frag) (mg : Str → Option Value) (Fl : Str → List (Str × V) → List V → Prop) (i : Nat) (a : Addr) (cls : Value) (d : Option Addr) : TE := fun σ H Q => σ[i]? = some (some (.ref a)) ∧ ∃ (C dd : Addr) (code : Str) (fs : List (Str × V)) (ws : List V), cls = .ref C ∧ d = some dd ∧ IsExc K mg code fs (.ref C) (some dd) H ∧ Fl code fs ws ∧ ws.length ≤ 1000 ∧ ∀ r H', Same H H' → H r = none → H' r = some (.tup ws) → Q (.ref r) H'
section
variable {X : Cx} {a : Addr} {oe : Obj} {cls : Value} {d : Option Addr} {e : Expr} {n : Str} {i : Nat} {pos q : Pos}
/-- in the clause's suite: the caught error's field -/
theorem pe_pinA (hp : (a, oe) ∈ X.pn) (hz : Zc cls d oe) (hf : ∃ vs, oe.data = .fields vs) (he : PE X e (tVar i)) (hb : attributeBase e n X.env (eval e X.env) = eval e X.env := by rfl) :
    PE X (.Attribute e n pos) (tPinA X.K i a cls d n) := by
  constructor
  rintro pins s σ H Q I ⟨h0, C, dd, fs, v, rfl, rfl, T, nf, ed, l, hq⟩
  exact (pe_pinf hp he hb).run pins s σ H Q I ⟨_, h0, rfl, C, dd, fs, v, ⟨hz, hf⟩, T, nf, ed, l, hq⟩
/-- .. its fields, told by a def -/
theorem pe_fieldsA {Fl : Str → List (Str × V) → List V → Prop} {k : Nat} {f : Addr} {fd : FuncData} {ps : List Str} {x : Str} (hp : (a, oe) ∈ X.pn) (hz : Zc cls d oe) (hf : ∃ vs, oe.data = .fields vs) (F : FnQ X.prog X.w X.K X.mg X.base k f fd ps (spFields X.K X.mg Fl)) (hr : L2H.RoomH k X.A) (hg : Gl X x) (hm : X.mg x = some (.ref f)) (hk : PySem.W.keepIn X.K (.ref f) = true) (hb : Binds X.K fd ps [])
    (he : PA X [e] (tCons (tVar i) tNil)) (hdb : (x == ("__debug__" : Str)) = false := by decide) (hs : starEach [e] X.env = (false, eval e X.env) :: starEach [] X.env := by rfl) (hpl : (backTo pos (starEach [] X.env)).any (·.1) = false := by rfl) :
    PE X (.Call (.Name x q) [e] [] pos) (tFieldsA X.K X.mg Fl i a cls d) := by
  constructor
  rintro pins s σ H Q I ⟨h0, C, dd, code, fs, ws, rfl, rfl, E, fl, lw, hq⟩
  exact (pe_callQ (p := (a, oe)) hp F hr hg hm hk hb he hdb hs hpl).run pins s σ H Q I ⟨_, h0, C, dd, code, fs, ws, rfl, ⟨hz, hf⟩, E, fl, lw, hq⟩
end
end Th
namespace Th
open PySem PySem.Spec PyProof.Rows L2
/-- a def whose code object is known -/
theorem okC {P : Program} {w : World} {K : PySem.W.Frag} {mg : Str → Option Value} {base : Heap} {x qual : Str} {st : Stmt} {f c : Addr} {fd : FuncData} {N ps : List Str} {k : Nat} {sp : Sp} (F : Fun K x qual st f fd) (hc : fd.code = .ref c) (S : FnScope N ps (defScope st)) (len : ∀ vs H Q E, sp vs H Q E → vs.length = ps.length)
    (hbody : ∀ (A : Around) (outer : List Env) (s : Shared) (H : Hp) (vs : List V) (Q : VK) (E : XK), Room k (A.deeper (envOfC qual (defScope st) s.heap.objs.size f (.ref c))) → sp vs H Q E →
      ∃ t, PSs (cxOf CX0 P w K mg base N qual (defScope st) f (.ref c) A outer s H E).nox (defBody st) t ∧ t { nx := fun _ H' => Q .non H', rt := Q } (L2.start N vs) H) : FnOk P w K mg base CX0 (k + 1) f fd ps sp := by
  obtain ⟨oc, od, kV, doc, pm, an, cdv, ct, osl, rfl, lk, hcd⟩ := F.ex
  obtain rfl : cdv = .ref c := hc
  refine fn_of lk hcd S len fun A outer s H vs Q E hr hsp => ?_
  obtain ⟨t, h, q⟩ := hbody A outer s H vs Q E hr hsp
  exact ⟨t, h.nox, q⟩
/-- f(lambda: body), f the def that tries -/
theorem pe_try {X : Cx} {x a : Str} {st : Stmt} {g c P : Addr} {fdg : FuncData} {k : Nat} {Ng : List Str} {TT : (XK → Hp → VK → Prop) → Hp → VK → Prop} {params : Arguments} {body : Expr} {scope : Scope} {t : XK → TE} {p lpos pos : Pos} (Fg : Fun X.K x x st g fdg) (hm : X.mg x = some (.ref g)) (hb : Binds X.K fdg [a] []) (hg : Gl X x)
    (Sg : FnScope Ng [a] (defScope st)) (hNg : Ng[0]? = some a) (hva : Vis (defScope st) a) (hG : ∀ (cdg : Value), LamX.GivesTo X Ng x (defScope st) g cdg (defBody st) a (X.env.qual ++ "<lambda>") TT)
    (TB : LamX.TabB X.base X.mg c P) (hcode : X.env.code = .ref c) (hr : Room (k + 2) X.A) (L : LamX.LamS X.env.scope scope) (hdef : defaultsOf params X.env = ([], []))
    (hbind : ∀ (q : Str) (cl : List (Str × Addr)) (pm cv ctv : Value), bindArgs (PySem.W.kla_fn "<lambda>" q params body scope cl pm cv ctv) ⟨[], []⟩ = pure [])
    (hbody : ∀ (A : Around) (outer : List Env) (s : Shared) (H : Hp) (E : XK) (f c' : Addr), Room k (A.deeper (LamX.lamEnv X scope s.heap.objs.size f c')) → PE (LamX.lamCx X A outer s H E scope f c') body (t E))
    (hdb : (x == ("__debug__" : Str)) = false := by decide) (hd : (a == ("__debug__" : Str)) = false := by decide) (hcd : (a == ("__classdict__" : Str)) = false := by decide) :
    PE X (.Call (.Name x p) [.Lambda params body scope lpos] [] pos) (LamX.tLam [(P, X.env.qual ++ "<lambda>")] TT t) := by
  obtain ⟨oc, od, kV, doc, pm, an, cdv, ct, osl, rfl, lk, hco⟩ := Fg.ex
  exact LamX.pe_lamcall (T := [(P, X.env.qual ++ "<lambda>")]) hg hm Fg.kp lk hco hb Sg hNg hva (hG _) TB hcode (List.mem_singleton.mpr rfl) (fun p hp _ => by rw [List.mem_singleton.mp hp]) hr L hdef hbind hbody hdb hd hcd
end Th
/-! x in a tuple, x any datum -/
namespace L2
open PySem PySem.Spec PyProof.Rows
theorem hu65 {A : Around} {k : Nat} (hr : Room k A) : A.units + 65 < cLine := by
  have := hr.un
  omega
def rInT (K : PySem.W.Frag) (neg : Bool) : R2 := fun x y H Q => ∃ d ds, Dp K H x d ∧ Dp K H y (.tuple ds) ∧ SeqAt.shaped d = true ∧ SeqAt.shaped (.tuple ds) = true ∧ Q (.bl (if neg then !ds.any fun z => PyData.eqv z d else ds.any fun z => PyData.eqv z d)) H
section
variable {X : Cx}
theorem op_inT (hu : X.A.units + 65 < cLine) : OpR X (compareOp .In) (rInT X.K false) := by
  intro pins s σ H x y v u Q I rx ry h
  obtain ⟨d, ds, hd, he, sd, se, q⟩ := h
  obtain ⟨as, r1⟩ := Dp.reads I d x v hd rx
  obtain ⟨bs, r2⟩ := Dp.reads I (.tuple ds) y u he ry
  exact SeqAt.in_tuple_reads r2 r1 (SeqAt.canLay_of_shaped se) (SeqAt.canLay_of_shaped sd) (room_in_shaped sd hu) ⟨.bl _, H, I, rfl, q⟩
theorem op_notInT (hu : X.A.units + 65 < cLine) : OpR X (compareOp .NotIn) (rInT X.K true) := by
  intro pins s σ H x y v u Q I rx ry h
  obtain ⟨d, ds, hd, he, sd, se, q⟩ := h
  obtain ⟨as, r1⟩ := Dp.reads I d x v hd rx
  obtain ⟨bs, r2⟩ := Dp.reads I (.tuple ds) y u he ry
  exact SeqAt.notIn_tuple_reads r2 r1 (SeqAt.canLay_of_shaped se) (SeqAt.canLay_of_shaped sd) (room_in_shaped sd hu) ⟨.bl _, H, I, rfl, q⟩
end
end L2
namespace Th
open PySem PySem.Spec PyProof.Rows L2
/-- a datum is one of these texts -/
def inNm (d : PyData) (xs : List Str) : Bool := match d with
  | .str x => decide (x ∈ xs)
  | _ => false
theorem any_nm (d : PyData) (nd : tyD d ≠ "dict") : ∀ xs : List Str, ((xs.map PyData.str).any fun z => PyData.eqv z d) = inNm d xs
  | [] => by cases d <;> rfl
  | x :: r => by
    rw [List.map_cons, List.any_cons, any_nm d nd r]
    cases d with
    | dict kvs => exact absurd rfl nd
    | str y =>
      have e : PyData.eqv (.str x) (.str y) = decide (x = y) := by
        have e2 : (x == y) = decide (x = y) := by rw [Bool.eq_iff_iff, beq_iff_eq, decide_eq_true_eq]
        rw [← e2]
        simp [PyData.eqv]
      rw [e]
      show (decide (x = y) || decide (y ∈ r)) = decide (y ∈ x :: r)
      by_cases h : x = y
      · simp [h]
      · have h' : ¬ y = x := fun z => h z.symm
        simp [h, h']
    | none => simp [PyData.eqv, inNm]
    | bool b => simp [PyData.eqv, inNm]
    | int b => simp [PyData.eqv, inNm]
    | list b => simp [PyData.eqv, inNm]
    | tuple b => simp [PyData.eqv, inNm]
end Th
/-! for i, x in enumerate(t), t a tuple -/
namespace PySem
namespace XG
open Sem (wp)
abbrev enumO (it : Addr) : Obj := { cls := .type "enumerate", data := .fields #[.none, .bool false, .ref it, rawInt 0, .none, .none] }
theorem meets_enum1 {v : Value} {o : Obj} {H : Heap → Prop} (B : Begins v o H) :
    Meets (Builtin.«enumerate.__new__» ⟨[.type "enumerate", v], []⟩) (fun _ R s => H s.heap ∧ R (.ok (.ret (.ref (s.heap.push o).objs.size))) { s with heap := (s.heap.push o).push (enumO s.heap.objs.size) }) :=
  .of_wp fun prog w A R s hh => by
    obtain ⟨hp, g, d, tk, os⟩ := s
    obtain ⟨h0, hr⟩ := hh
    have hsub := sub_enumerate
    have starts : ∀ {A' : Around} {E : Value → Shared → Prop} {Q : Value → Shared → Prop}, Q (.ref hp.objs.size) ⟨hp.push o, g, d, tk, os⟩ → wpAny (model prog w) A' (pyIter v) Q E ⟨hp, g, d, tk, os⟩ := fun q => B.iter prog w _ _ ⟨hp, g, d, tk, os⟩ _ h0 q
    wp_walk using starts
    refine wpAny_stack_any fun st => wpAny_pure ?_
    split
    case h_1 c _ _ _ _ _ =>
      cases (c == Value.type "enumerate") <;> (wp_walk using starts; exact ⟨_, rfl, hr⟩)
    case h_2 =>
      wp_walk using starts
      exact ⟨_, rfl, hr⟩
theorem call_enum1 {prog : Program} {w : World} {A : Around} {E : Value → Shared → Prop} {s : Shared} {v : Value} {o : Obj} {H : Heap → Prop} {Q : Value → Shared → Prop} (B : Begins v o H) (h0 : H s.heap)
    (h : ∀ h', IsEnum h' (s.heap.objs.size + 1) s.heap.objs.size 0 .none → h'.get? s.heap.objs.size = some o → (∀ b u, s.heap.get? b = some u → h'.get? b = some u) → Q (.ref (s.heap.objs.size + 1)) { s with heap := h' }) :
    wpAny (model prog w) A (call (.type "enumerate") [v]) Q E s := by
  refine callType_new F.called_enumerate (by decide) (F.typeCall_enumerate_1 _) (F.newCall_enumerate_1 _) (fun obj => F.args_object_init_2 obj _) F.entry_enumerate_new (meets_enum1 B) ⟨h0, ?_⟩
  have size : (s.heap.push o).objs.size = s.heap.objs.size + 1 := Heap.size_push ..
  have en : ((s.heap.push o).push (enumO s.heap.objs.size)).get? (s.heap.objs.size + 1) = some (enumO s.heap.objs.size) := by
    rw [← size]
    exact Heap.get?_push_size (s.heap.push o) (o := enumO s.heap.objs.size) rfl
  show _ ∧ _
  rw [size]
  exact ⟨⟨_, en, rfl⟩, h _ en (Heap.get?_push_of_some _ (Heap.get?_push_size _ B.free)) fun b u q => Heap.get?_push_of_some _ (Heap.get?_push_of_some _ q)⟩
end XG
end PySem
namespace L2
open PySem PySem.Spec PyProof.Rows
/-- the tuple at a, each item in a new pair with its place -/
def IteT (K : PySem.W.Frag) (a : Addr) : It :=
  ⟨fun i H => ∃ (xs : List V) (x : V), SqT K H a xs ∧ xs[i]? = some x, fun i H v H' => ∃ T x, v = .ref T ∧ H T = none ∧ H' = upd H T (.tup [.int (i : Nat), x]) ∧ ∀ xs, SqT K H a xs → xs[i]? = some x, fun i H => ∃ xs : List V, SqT K H a xs ∧ xs.length = i⟩
theorem turn_enumT {P : Program} {w : World} {K : PySem.W.Frag} {elts : List Expr} {kk : Nat} {tpos : Pos} (a e it : Addr) :
    Turn P w K (.Tuple elts kk tpos) (IteT K a) [e, it] e (fun i h => (∃ old, IsEnum h e it ((i : Nat) : Int) old) ∧ h.IsTupleIter it a i ∧ e ≠ it) where
  mem := List.mem_cons_self
  obj := fun i h st b hb => by
    obtain ⟨⟨old, he⟩, ⟨o, ho, _, hd⟩, _⟩ := st
    rcases List.mem_cons.mp hb with z | z
    · rw [z]
      exact ⟨_, he, fun v q => nomatch q⟩
    · rw [List.mem_singleton.mp z]
      exact ⟨o, ho, fun v q => by rw [hd] at q; cases q⟩
  keep := fun i h h' st k => by
    obtain ⟨⟨old, he⟩, hi, ne⟩ := st
    exact ⟨⟨old, k e (by simp) _ he⟩, hi.at fun o q => k it (by simp) o q, ne⟩
  item := by
    rintro X rfl rfl rfl hc i pins s σ H E I hf ⟨⟨old, he⟩, hit, ne⟩ ⟨xs, x, hq, hx⟩
    obtain ⟨its, rv, p, hz⟩ := I.tuple hq
    obtain ⟨u, hu, ru⟩ := rv.get hx
    have le : e < s.heap.objs.size := Heap.lt_size he
    have li : it < s.heap.objs.size := let ⟨_, q, _⟩ := hit; Heap.lt_size q
    have hT : s.heap.IsTuple a its.toArray := p
    have ait : a ≠ it := fun z => by
      obtain ⟨o1, q1, c1, _⟩ := hit
      obtain ⟨o2, q2, c2, _⟩ := hT
      rw [z, q1] at q2
      cases q2
      have c3 : Value.type "tuple_iterator" = Value.type "tuple" := c1.symm.trans c2
      exact absurd c3 (by decide)
    have aE : e ∉ [it, a] := fun z => by
      rcases List.mem_cons.mp z with z | z
      · exact ne z
      · rw [List.mem_singleton.mp z] at he
        obtain ⟨o2, q2, c2, _⟩ := hT
        rw [he] at q2
        cases q2
        have c3 : Value.type "enumerate" = Value.type "tuple" := c2
        exact absurd c3 (by decide)
    refine wpAny_pyNext_enum_itemD (Draws.tuple (prog := X.prog) (w := X.w) (A := X.A.in1) (show X.A.in1.handled = none from I.ok.hd hc) it a ait its.toArray) he ⟨hit, hT⟩ (by have := (List.getElem?_eq_some_iff.mp hu).1; simpa using this) ne aE fun y h' tk hy ho hs2 hnew hsz hk => ?_
    have ey : y = u := by
      have z1 : its.toArray[i]? = some y := hy
      have z2 : its.toArray[i]? = some u := by simpa using hu
      rw [z1] at z2
      exact Option.some.inj z2
    subst ey
    refine ⟨_, rfl, wpAny_letOwnedTupleGo_enum (s := { s with heap := h', toks := tk + 1 }) ho fun h2 he2 sb => ?_⟩
    have stands : h2.get? s.heap.objs.size = some { cls := .type "tuple", data := .seq #[.int i tk, y] } := (sb.2 _ (Nat.ne_of_gt le)).trans hnew
    have new : ObjOk X.prog X.w (upd H s.heap.objs.size (.tup [.int (i : Nat), x])) h2 s.heap.objs.size (.tup [.int (i : Nat), x]) :=
      ⟨by show 2 ≤ sizeLine; decide, [.int i tk, y], .cons ⟨_, rfl⟩ (.cons ru .nil), ⟨_, stands, rfl, _, rfl⟩⟩
    have fresh : H s.heap.objs.size = none := I.hok.fresh (Nat.le_refl _)
    have I1 : Inv X pins σ (upd H s.heap.objs.size (.tup [.int (i : Nat), x])) { s with heap := h2, toks := tk + 1 } :=
      I.turnedNew (ch := [e, it]) (fun b ob hb q => (sb.2 b (fun z => hb (by simp [z]))).trans (hk b ob (fun z => hb (by simp [z])) (fun z => hb (by simp [z])) q)) hf (Nat.le_refl _) new
    refine ⟨.ref s.heap.objs.size, _, I1, rfl, ⟨_, x, rfl, fresh, rfl, fun ys hy2 => ?_⟩, ⟨⟨y, ?_⟩, ?_, ne⟩, fun b hb => ?_⟩
    · rw [I.tuple_inj hy2 hq]
      exact hx
    · rw [show ((i + 1 : Nat) : Int) = (i : Int) + 1 by omega]
      exact he2
    · exact hs2.1.at fun o q => (sb.2 it (Ne.symm ne)).trans q
    · have lb : b < s.heap.objs.size := by
        rcases List.mem_cons.mp hb with z | z
        · rw [z]; exact le
        · rw [List.mem_singleton.mp z]; exact li
      rw [upd_ne (Nat.ne_of_lt lb)]
      exact (hf b hb).1
  done := by
    rintro X rfl rfl rfl hc i pins s σ H E I hf ⟨⟨old, he⟩, hit, ne⟩ ⟨xs, hq, hx⟩
    obtain ⟨its, rv, p, hz⟩ := I.tuple hq
    have hT : s.heap.IsTuple a its.toArray := p
    have hl : i = its.toArray.size := by rw [← hx, rv.length, List.size_toArray]
    obtain ⟨f0, f1, f2, f3, f4, f5⟩ := hf it (by simp)
    have ait : a ≠ it := fun z => by
      obtain ⟨o1, q1, c1, _⟩ := hit
      obtain ⟨o2, q2, c2, _⟩ := hT
      rw [z, q1] at q2
      cases q2
      have c3 : Value.type "tuple_iterator" = Value.type "tuple" := c1.symm.trans c2
      exact absurd c3 (by decide)
    rw [hl] at he hit
    exact wpAny_pyNext_enum_endD (Draws.tuple (prog := X.prog) (w := X.w) (A := X.A.in1) (show X.A.in1.handled = none from I.ok.hd hc) it a ait its.toArray) he ⟨hit, hT⟩ fun h' eb => ⟨rfl, I.turned (t' := s.toks) (fun b o hb q => eb b o hb q) f0 f1 f3 f4 f5⟩
  self := fun A i s Q E st h => let ⟨⟨_, he⟩, _⟩ := st; wpAny_pyIter_enum he h
def iEnumT (K : PySem.W.Frag) (ta : TA) : TI := fun σ H R => ta σ H fun vs H1 => ∃ a xs, vs = [.ref a] ∧ ((SqL K H1 a xs ∧ R (Ite K a) H1) ∨ (SqT K H1 a xs ∧ R (IteT K a) H1))
/-- enumerate of a list or a tuple -/
theorem pi_enumLT {X : Cx} {e : Expr} {ta : TA} {p pos tpos : Pos} {elts : List Expr} {kk : Nat} (hg : Gl X "enumerate") (hm : X.mg "enumerate" = none) (ha : PA X [e] ta) (hs : starEach [e] X.env = [(false, eval e X.env)] := by rfl) :
    PI X (.Tuple elts kk tpos) (.Call (.Name "enumerate" p) [e] [] pos) (iEnumT X.K ta) := by
  constructor
  intro pins s σ H R I h
  refine Call_ (ld_blt I hg hm boot_enumerate (PyProof.Rows.callWith_type1 (thn (ha.run pos pins s σ H _ I h) fun us s1 hu => ?_) hs rfl))
  obtain ⟨vs, H1, I1, r1, a, xs, ex, q⟩ := hu
  subst ex
  rw [Vals.ref1 r1]
  have new : ∀ b ∈ [s1.heap.objs.size + 1, s1.heap.objs.size], s1.heap.objs.size ≤ b := fun b hb => by
    rcases List.mem_cons.mp hb with z | z
    · rw [z]; exact Nat.le_add_right _ _
    · rw [List.mem_singleton.mp z]; exact Nat.le_refl _
  rcases q with ⟨hq, q⟩ | ⟨hq, q⟩
  · obtain ⟨its, rv, p', hz⟩ := I1.list hq
    refine call_enumerate_list p'.isList fun h' he hit hsz hk => wpAny_pyIter_enum he ?_
    exact ⟨s1.heap.objs.size + 1, [s1.heap.objs.size + 1, s1.heap.objs.size], _, _, H1, rfl, I1.kept (t' := s1.toks) hk, turn_enum a (s1.heap.objs.size + 1) s1.heap.objs.size, ⟨⟨.none, he⟩, hit, Nat.succ_ne_self _⟩, fun b hb => I1.fpOk (new b hb) (I1.hok.fresh (new b hb)), q⟩
  · obtain ⟨its, rv, p', hz⟩ := I1.tuple hq
    have hT : s1.heap.IsTuple a its.toArray := p'
    refine PySem.XG.call_enum1 (begins_tuple a its.toArray) hT fun h' he hit hk => wpAny_pyIter_enum he ?_
    exact ⟨s1.heap.objs.size + 1, [s1.heap.objs.size + 1, s1.heap.objs.size], _, _, H1, rfl, I1.kept (t' := s1.toks) hk, turn_enumT a (s1.heap.objs.size + 1) s1.heap.objs.size, ⟨⟨.none, he⟩, ⟨_, hit, rfl, rfl⟩, Nat.succ_ne_self _⟩, fun b hb => I1.fpOk (new b hb) (I1.hok.fresh (new b hb)), q⟩
end L2
namespace L2
open PySem PySem.Spec PyProof.Rows
theorem walk_enumT {K : PySem.W.Frag} {a : Addr} {xs : List V} : Walk (IteT K a) xs.length (fun H => SqT K H a xs) (YPair (fun i => some (.int (i : Nat))) (fun i => xs[i]?)) where
  goes := fun i H hi h => ⟨xs, xs[i], h, List.getElem?_eq_getElem hi⟩
  stops := fun H h => ⟨xs, h, rfl⟩
  yields := fun i H v H' hi h y => by
    obtain ⟨T, x, e1, e2, e3, e4⟩ := y
    exact ⟨T, _, x, e1, e2, e3, rfl, e4 xs h⟩
end L2
/-! the least text of a list or a tuple -/
namespace Th
open PySem PySem.Spec PyProof.Rows L2
theorem minOf_ok : ∀ (xs : List Str) (x : Str), PySem.W.minOf x xs ∈ x :: xs ∧ ∀ y ∈ x :: xs, leS (PySem.W.minOf x xs) y
  | [], x => ⟨List.mem_cons_self, fun y hy => by
    rw [List.mem_singleton.mp hy]
    exact Std.lt_irrefl⟩
  | y :: r, x => by
    have e : PySem.W.minOf x (y :: r) = PySem.W.minOf (if cs y < cs x then y else x) r := by
      show List.foldl _ _ _ = _
      rw [List.foldl_cons]
      show PySem.W.minOf (if decide (cs y < cs x) = true then y else x) r = _
      by_cases h : cs y < cs x
      · rw [if_pos h, decide_eq_true h, if_pos rfl]
      · rw [if_neg h, decide_eq_false h, if_neg Bool.false_ne_true]
    rw [e]
    by_cases h : cs y < cs x
    · rw [if_pos h]
      obtain ⟨a, b⟩ := minOf_ok r y
      refine ⟨List.mem_cons_of_mem _ a, fun z hz => ?_⟩
      rcases List.mem_cons.mp hz with w | m
      · rw [w]
        exact fun k => b y List.mem_cons_self (Std.lt_trans h k)
      · exact b z m
    · rw [if_neg h]
      obtain ⟨a, b⟩ := minOf_ok r x
      refine ⟨?_, fun z hz => ?_⟩
      · rcases List.mem_cons.mp a with w | m
        · rw [w]; exact List.mem_cons_self
        · exact List.mem_cons_of_mem _ (List.mem_cons_of_mem _ m)
      · rcases List.mem_cons.mp hz with w | m
        · rw [w]
          exact b x List.mem_cons_self
        · rcases List.mem_cons.mp m with w | m
          · rw [w]
            exact fun k => h (Std.lt_of_lt_of_le k (Std.not_lt.mp (b x List.mem_cons_self)))
          · exact b z (List.mem_cons_of_mem _ m)
def rMinS (K : PySem.W.Frag) : List V → Hp → VK → Prop := fun vs H Q => ∃ (a : Addr) (xs : List Str), vs = [V.ref a] ∧ (SqL K H a (xs.map V.str) ∨ SqT K H a (xs.map V.str)) ∧ xs ≠ [] ∧ ∀ m, m ∈ xs → (∀ y ∈ xs, leS m y) → Q (.str m) H
theorem cr_minS {X : Cx} (hc : X.calm = true) (hu : X.A.units + 64 < cLine) : CallR X (.builtin "min") (rMinS X.K) := by
  intro pins s σ H vs us Q I r h
  obtain ⟨a, xs, rfl, hs, hne, q⟩ := h
  rw [Vals.ref1 r]
  cases xs with
  | nil => exact absurd rfl hne
  | cons x xs =>
    obtain ⟨o1, o2⟩ := minOf_ok xs x
    have room : X.A.units + 1 + PySem.W.Datum.depth Str < cLine := by
      show X.A.units + 1 + 0 < cLine
      omega
    have fin : ∀ (v : Value) (h' : Heap) (tk : Nat), PySem.W.Holds h' v (PySem.W.minOf x xs) → (∀ b o, s.heap.get? b = some o → h'.get? b = some o) → ∃ v' H', Inv X pins σ H' { s with heap := h', toks := tk } ∧ RelV v' v ∧ Q v' H' := fun v h' tk hv hk => by
      have st := PySem.W.HoldAll.toStrs (PySem.W.HoldAll.cons hv (PySem.W.HoldAll.nil (α := Str)))
      cases st with
      | cons z t _ => exact ⟨.str _, H, I.kept hk, ⟨_, rfl⟩, q _ o1 o2⟩
    rcases hs with hs | hs
    · obtain ⟨its, rv, hl, _⟩ := I.list hs
      exact PySem.W.min_list_datum (α := Str) (I.ok.hd hc) hl.isList (PySem.W.HoldAll.of_strs rv.strs) room fun i v h' tk _ hv hk => fin v h' tk hv hk
    · obtain ⟨its, rv, ht, hz⟩ := I.tuple hs
      exact PySem.W.min_tuple_datum (α := Str) (I.ok.hd hc) ht (PySem.W.HoldAll.of_strs rv.strs) room fun i v h' tk _ hv hk => fin v h' tk hv hk
end Th
/-! tuples cut and joined, with one way on -/
namespace Th
open PySem PySem.Spec PyProof.Rows L2
/-- a tuple, its type known -/
def TupAt (K : PySem.W.Frag) (H : Hp) (a : Addr) (xs : List V) : Prop := SqT K H a xs ∧ TyX K H (.ref a) (.type "tuple")
theorem TupAt.to {K : PySem.W.Frag} {H H' : Hp} {a : Addr} {xs : List V} (h : TupAt K H a xs) (s : Same H H') : TupAt K H' a xs := ⟨same_t s h.1, ty_same s h.2⟩
theorem TupAt.new {K : PySem.W.Frag} {H : Hp} {a : Addr} {xs : List V} : TupAt K (upd H a (.tup xs)) a xs := ⟨.inl (.inl upd_same), .base (.tup upd_same)⟩
theorem TupAt.bare {K : PySem.W.Frag} {H : Hp} {a : Addr} {xs : List V} (h : BareT H a xs) : TupAt K H a xs := ⟨h.sq, bare_ty h⟩
theorem TupAt.da {K : PySem.W.Frag} {H : Hp} {a : Addr} {xs : List V} {ds : List PyData} (h : TupAt K H a xs) (r : DaAll K H xs ds) : Da K H (.ref a) (.tuple ds) := .tup h.1 h.2 r
theorem cutV_whole {xs : List V} {lo hi : Option Int} (h : HT.sIx xs.length 0 lo = 0 ∧ HT.sIx xs.length xs.length hi = xs.length) : cutV xs lo hi = xs := by
  unfold cutV
  rw [h.1, h.2, List.drop_zero, Nat.sub_zero, List.take_length]
/-- t[lo:hi] -/
def rSlD (K : PySem.W.Frag) : V → Option Int → Option Int → Hp → VK → Prop := fun x lo hi H Q => ∃ a xs, x = .ref a ∧ TupAt K H a xs ∧ ∀ r H', Same H H' → (r = a ∨ H r = none) → TupAt K H' r (cutV xs lo hi) → Q (.ref r) H'
theorem sl_tupD {X : Cx} : SlR X (rSlD X.K) := by
  intro pins s σ H x v vl vu lo hi sl Q I rx hs pl pu h
  obtain ⟨a, xs, rfl, ha, q⟩ := h
  exact sl_tupA pins s σ H _ v vl vu lo hi sl Q I rx hs pl pu ⟨a, xs, rfl, ha.1, fun w => q a H (Same.refl H) (.inl rfl) (by rw [cutV_whole w]; exact ha), fun _ p np => q p _ (same_new np) (.inr np) .new⟩
/-- t + u -/
def rCatD (K : PySem.W.Frag) : R2 := fun x y H Q => ∃ a b xs ys, x = .ref a ∧ y = .ref b ∧ TupAt K H a xs ∧ TupAt K H b ys ∧ xs.length + ys.length ≤ sizeLine ∧ ∀ r H', Same H H' → (r = a ∨ r = b ∨ H r = none) → TupAt K H' r (xs ++ ys) → Q (.ref r) H'
theorem op_catD {X : Cx} : OpR X (binaryOp .Add) (rCatD X.K) := by
  intro pins s σ H x y v u Q I rx ry h
  obtain ⟨a, b, xs, ys, rfl, rfl, ha, hb, hz, q⟩ := h
  refine op_catA pins s σ H _ _ v u Q I rx ry ⟨a, b, xs, ys, rfl, rfl, ha.1, hb.1, hz, fun e => ?_, fun _ e => ?_, fun _ _ p np => q p _ (same_new np) (.inr (.inr np)) .new⟩
  · exact q b H (Same.refl H) (.inr (.inl rfl)) (by rw [e]; exact hb)
  · exact q a H (Same.refl H) (.inl rfl) (by rw [e, List.append_nil]; exact ha)
theorem ty_hid {K : PySem.W.Frag} {p : Addr} {H : Hp} {v : V} {t : Value} (n : v ≠ .ref p) (h : TyX K H v t) : TyX K (hid p H) v t := by
  have k : ∀ {a : Addr} {o : HO}, v = .ref a → H a = some o → hid p H a = some o := fun e h => by
    rw [hid_ne (fun z => n (by rw [e, z]))]
    exact h
  cases h with
  | byt b => exact .byt b
  | kList h c => exact .kList h c
  | kTuple h c => exact .kTuple h c
  | kDict h c => exact .kDict h c
  | set h => exact .set (k rfl h)
  | fTuple h => exact .fTuple (k rfl h)
  | fDict h => exact .fDict (k rfl h)
  | base b =>
    refine .base ?_
    cases b with
    | non => exact .non
    | bl x => exact .bl x
    | int i => exact .int i
    | str x => exact .str x
    | flt x => exact .flt x
    | lst h => exact .lst (k rfl h)
    | frz h => exact .frz (k rfl h)
    | tup h => exact .tup (k rfl h)
    | dK h => exact .dK (k rfl h)
    | dT h => exact .dT (k rfl h)
    | ins h cl ha hn htk hm => exact .ins (k rfl h) cl ha hn htk hm
theorem TupAt.hid {K : PySem.W.Frag} {p a : Addr} {H : Hp} {xs : List V} (h : TupAt K H a xs) (n : a ≠ p) : TupAt K (hid p H) a xs := by
  refine ⟨?_, ty_hid (fun z => n (V.ref.inj z)) h.2⟩
  rcases h.1 with (h | ⟨o, h⟩) | h
  · exact .inl (.inl (by rw [hid_ne n]; exact h))
  · exact .inl (.inr ⟨o, by rw [hid_ne n]; exact h⟩)
  · exact .inr h
theorem TupAt.go {K : PySem.W.Frag} {D : DS} {a : Addr} {H H' : Hp} {xs : List V} (h : TupAt K H a xs) (n : a ≠ D.p) (g : Go D H H') : TupAt K H' a xs := ((h.hid n).to g.sm).to hid_same
theorem ne_or {D : DS} {H : Hp} {r a : Addr} (d : Drw D H) (o : r = a ∨ H r = none) (n : a ≠ D.p) : r ≠ D.p := o.elim (fun e => by rw [e]; exact n) d.ne_new
theorem ne_or3 {D : DS} {H : Hp} {r a b : Addr} (d : Drw D H) (o : r = a ∨ r = b ∨ H r = none) (n : a ≠ D.p) (m : b ≠ D.p) : r ≠ D.p := o.elim (fun e => by rw [e]; exact n) fun o => ne_or d o m
/-- names as values -/
def NmV (n : Nat) (vs : List V) : Prop := ∃ zs : List Str, vs = zs.map V.str ∧ (∀ z ∈ zs, isNm z = true) ∧ zs.length ≤ n
theorem NmV.cut {n : Nat} {vs : List V} (h : NmV n vs) (lo hi : Option Int) : NmV n (cutV vs lo hi) := by
  obtain ⟨zs, rfl, a, b⟩ := h
  obtain ⟨ws, e, c, d⟩ := cut_strs zs lo hi
  exact ⟨ws, e, fun z hz => a z (c z hz), Nat.le_trans d b⟩
theorem NmV.app {n m : Nat} {vs us : List V} (h : NmV n vs) (k : NmV m us) : NmV (n + m) (vs ++ us) := by
  obtain ⟨zs, rfl, a, b⟩ := h
  obtain ⟨ws, rfl, c, d⟩ := k
  refine ⟨zs ++ ws, by rw [List.map_append], fun z hz => ?_, by rw [List.length_append]; omega⟩
  rcases List.mem_append.mp hz with m | m
  · exact a z m
  · exact c z m
theorem NmV.rev {n : Nat} {vs : List V} (h : NmV n vs) : NmV n vs.reverse := by
  obtain ⟨zs, rfl, a, b⟩ := h
  exact ⟨zs.reverse, by rw [List.map_reverse], fun z hz => a z (List.mem_reverse.mp hz), by rw [List.length_reverse]; exact b⟩
theorem NmV.one {x : Str} (h : isNm x = true) : NmV 1 [.str x] := ⟨[x], rfl, fun z hz => by rw [List.mem_singleton.mp hz]; exact h, Nat.le_refl 1⟩
theorem NmV.len {n : Nat} {vs : List V} (h : NmV n vs) : vs.length ≤ n := by
  obtain ⟨zs, rfl, _, b⟩ := h
  rw [List.length_map]
  exact b
/-- an item at a place of any sign -/
theorem NmV.at {n : Nat} {vs : List V} (h : NmV n vs) {i : Int} (h0 : -(vs.length : Int) ≤ i) (h1 : i < vs.length) : ∃ y, isNm y = true ∧ atI vs i = some (.str y) := by
  obtain ⟨zs, rfl, a, _⟩ := h
  rw [List.length_map] at h0 h1
  obtain ⟨j, hj, e⟩ : ∃ j, j < zs.length ∧ ixN (zs.map V.str).length i = some j := by
    rw [List.length_map]
    unfold ixN
    by_cases z : 0 ≤ i
    · exact ⟨i.toNat, by omega, by rw [if_pos z, if_pos h1]⟩
    · exact ⟨(i + zs.length).toNat, by omega, by rw [if_neg z, if_pos h0]⟩
  refine ⟨zs[j], a _ (List.getElem_mem hj), ?_⟩
  unfold atI
  rw [e]
  show (zs.map V.str)[j]? = _
  rw [List.getElem?_map, List.getElem?_eq_getElem hj]
  rfl
end Th
/-! a lambda handed to a def that hands it on -/
namespace Th
open PySem PySem.Spec PyProof.Rows L2
/-- what stays over two steps, the second with one frame more, which is new -/
theorem un_two {fs : List Addr} {F : Addr} {H H1 H2 : Hp} {h h1 h2 : Heap} (a : Un fs [] H H1 h h1) (b : Un (F :: fs) [] H1 H2 h1 h2) (hF : h.objs.size ≤ F) : Un fs [] H H2 h h2 := by
  have no : ∀ c : Addr, c ∉ ([] : List Addr) := fun c z => nomatch z
  have nF : ∀ c o, h.get? c = some o → c ≠ F := fun c o e z => by
    rw [z] at e
    exact Nat.lt_irrefl _ (Nat.lt_of_lt_of_le (Heap.lt_size e) hF)
  have out : ∀ c o, h.get? c = some o → c ∉ fs → c ∉ F :: fs := fun c o e n z => by
    rcases List.mem_cons.mp z with w | m
    · exact nF c o e w
    · exact n m
  refine ⟨fun c o e n hc _ => ?_, fun c o e n hc _ => ?_, fun c o e n _ => ?_, fun c o e _ => ?_, fun c xs e => b.tups c xs (a.tups c xs e), fun c o u e => b.frzs c o u (a.frzs c o u e), fun c ps e => ?_⟩
  · exact b.keep c o (a.keep c o e n hc (no c)) (a.free c o e n (no c)) (out c o e hc) (no c)
  · obtain ⟨sl, e1⟩ := a.slot c o e n hc (no c)
    obtain ⟨sl2, e2⟩ := b.any e1 (a.free c o e n (no c)) (no c)
    exact ⟨sl2, e2⟩
  · obtain ⟨o1, e1⟩ := a.there c o e (no c)
    exact b.free c o1 e1 (a.free c o e n (no c)) (no c)
  · obtain ⟨o1, e1⟩ := a.there c o e (no c)
    exact b.there c o1 e1 (no c)
  · obtain ⟨m1, e1⟩ := a.tbls c ps e
    obtain ⟨m2, e2⟩ := b.tbls c _ e1
    exact ⟨m1 ++ m2, by rw [← Array.append_assoc]; exact e2⟩
section
variable {X : Cx} {pins : List (Addr × Obj)} {σ : L2.St} {H : Hp} {s : Shared}
abbrev lamO (X : Cx) (params : Arguments) (body : Expr) (scope : Scope) (pm ctv : Value) (c' : Addr) : Obj := PySem.W.kla_obj "<lambda>" (X.env.qual ++ "<lambda>") params body scope (cloFrom X.env.cells scope.names []) pm c' ctv
/-- the lambda is called from a def's body that stands any number of calls above its maker -/
theorem pe_actN {CXg : CXT} {Eg : XK} {Ng : List Str} {qg : Str} {sg : Scope} {g f c' : Addr} {cdg pm ctv : Value} {params : Arguments} {body : Expr} {scope : Scope} {k i : Nat} {a : Str} {pn : List (Addr × Obj)} {xe : Value → Shared → Prop} {W : WX} {E : XK} {tb : TE} {p1 p2 : Pos} {A2 : Around} {stk : List Env} {s2 : Shared} {H2 : Hp}
    (I : Inv X pins σ H s) (L : LamX.LamS X.env.scope scope) (hf : s.heap.get? f = some (lamO X params body scope pm ctv c')) (hfn : H f = none) (hfr : f ∉ frs X.stack)
    (hun : ∀ HZ h, Un (frs stk) [] H2 HZ s2.heap h → Un (frs X.stack) [] H HZ s.heap h)
    (hbind : bindArgs (PySem.W.kla_fn "<lambda>" (X.env.qual ++ "<lambda>") params body scope (cloFrom X.env.cells scope.names []) pm (.ref c') ctv) ⟨[], []⟩ = pure [])
    (tk : Takes ((cxOf CXg X.prog X.w X.K X.mg X.base Ng qg sg g cdg A2 stk s2 H2 Eg).tr pn xe) W) (hW : ∀ cls d σ' H', E cls d H' → W cls d σ' H') (hr : Room (k + 1) (A2.deeper (envOfC qg sg s2.heap.objs.size g cdg)))
    (hbody : ∀ (A : Around) (outer : List Env) (s : Shared) (H : Hp), Room k (A.deeper (LamX.lamEnv X scope s.heap.objs.size f c')) → PE (LamX.lamCx X A outer s H E scope f c') body tb)
    (hN : Ng[i]? = some a) (hv : Vis sg a) (hd : (a == ("__debug__" : Str)) = false := by decide) (hcd : (a == ("__classdict__" : Str)) = false := by decide) :
    PE ((cxOf CXg X.prog X.w X.K X.mg X.base Ng qg sg g cdg A2 stk s2 H2 Eg).tr pn xe) (.Call (.Name a p1) [] [] p2)
      (fun σZ HZ Q => σZ[i]? = some (some (.ref f)) ∧ HZ c' = some (LamX.CodeO c' (X.env.qual ++ "<lambda>")) ∧ tb σ HZ Q) := by
  constructor
  rintro pinsZ sZ σZ HZ Q IZ ⟨at0, hc, ht⟩
  have rd := (pe_var (X := (cxOf CXg X.prog X.w X.K X.mg X.base Ng qg sg g cdg A2 stk s2 H2 Eg).tr pn xe) (pos := p1) (i := i) hN hv hd hcd).run pinsZ sZ σZ HZ (fun v H1 => v = .ref f ∧ H1 = HZ) IZ ⟨.ref f, at0, rfl, rfl⟩
  refine wpAny_Call_Name_kw (thn rd ?_)
  rintro u t ⟨v, H1, J, r1, rfl, rfl⟩
  obtain rfl : u = Value.ref f := r1
  have un : Un (frs X.stack) [] H H1 s.heap t.heap := hun _ _ J.base
  have fo : t.heap.get? f = some (lamO X params body scope pm ctv c') := un.keep f _ hf hfn hfr (fun z => nomatch z)
  refine PySem.W.callWith_F0 ⟨_, _, _, _, fo⟩ ?_
  obtain ⟨⟨oc, vs, tok, hoc, hdc, hvc⟩, _, _⟩ := J.hok c' _ hc
  have run : codeAny (model X.prog X.w) (A2.deeper (envOfC qg sg s2.heap.objs.size g cdg)) (.call (.ref f) ⟨[], []⟩) (CR (L2.CX X.prog X.w) (envOfC qg sg s2.heap.objs.size g cdg :: stk) X.prog X.w H1 t Q E) t := by
    refine PySem.W.kla_callFunE hr.depth fo rfl L.co L.gen rfl ⟨c', oc, vs, tok, rfl, hoc, hdc, hvc⟩ ?_
    rw [hbind]
    refine wpAny_pure (wpAny_newFunctionEnv (fun y hy => (L.own y hy).2) (fun y hy => nomatch hy) (fun h1 ns sb => ⟨J.nolimit.fresh _ sb, ?_⟩) L.kind)
    have st := LamX.lam_start2 (E := E) (f := f) (c' := c') (tk := t.toks + ([] : List (Str × Value)).length) I L J.env0 hr.hd un ns fun b o e => sb.extBut b o (Nat.ne_of_lt (Heap.lt_size e)) (Heap.get?_push_of_some _ e)
    refine PySem.W.kla_codeExpr (wpAny_mono ((hbody _ _ t H1 (hr.deeper _)).run [] _ _ H1 Q st ht) ?_ fun e s' z => z)
    rintro v s' ⟨w', H', K', rv, q⟩
    exact ⟨w', H', K'.os, K'.bare, K'.base, K'.hok, rv, q⟩
  have hx : Passes (L2.CX X.prog X.w) ((cxOf CXg X.prog X.w X.K X.mg X.base Ng qg sg g cdg A2 stk s2 H2 Eg).tr pn xe) E := passes_call tk hW
  refine wpAny_call (codeAny_mono run ?_)
  rintro (e | fl) s' q
  · exact hx pinsZ σZ H1 t e s' J q
  · cases fl with
    | ret u => exact J.after q
    | next => exact q.elim
    | brk => exact q.elim
    | cont => exact q.elim
/-- what a def makes of a lambda and another value that it got -/
def Gives2 (k : Nat) (X : Cx) (Ng : List Str) (x : Str) (sg : Scope) (g : Addr) (cdg : Value) (bg : List Stmt) (q : Str) (tl : XK → Hp → VK → Prop) (f c' : Addr) (TT : (XK → Hp → VK → Prop) → V → Hp → VK → Prop) : Prop :=
  ∀ (s : Shared) (H : Hp) (Q : VK) (v : V),
    (∀ {CXg : CXT} {Eg : XK} {N2 : List Str} {q2 : Str} {sg2 : Scope} {g2 : Addr} {cd2 : Value} {a : Str} {W : WX} {pn : List (Addr × Obj)} {xe : Value → Shared → Prop} {E : XK} {p1 p2 : Pos} {A2 : Around} {stk : List Env} {s2 : Shared} {H2 : Hp},
      (∀ HZ h, Un (frs stk) [] H2 HZ s2.heap h → Un (frs X.stack) [] H HZ s.heap h) → Takes ((cxOf CXg X.prog X.w X.K X.mg X.base N2 q2 sg2 g2 cd2 A2 stk s2 H2 Eg).tr pn xe) W → (∀ cls d σ' H', E cls d H' → W cls d σ' H') → Room (k + 1) (A2.deeper (envOfC q2 sg2 s2.heap.objs.size g2 cd2)) →
      N2[0]? = some a → Vis sg2 a → (a == ("__debug__" : Str)) = false → (a == ("__classdict__" : Str)) = false →
      PE ((cxOf CXg X.prog X.w X.K X.mg X.base N2 q2 sg2 g2 cd2 A2 stk s2 H2 Eg).tr pn xe) (.Call (.Name a p1) [] [] p2) (fun σZ HZ Q => σZ[0]? = some (some (.ref f)) ∧ HZ c' = some (LamX.CodeO c' q) ∧ tl E HZ Q)) →
    H c' = some (LamX.CodeO c' q) → TT tl v H Q →
    ∃ t, PSs (cxOf CX0 X.prog X.w X.K X.mg X.base Ng x sg g cdg X.A X.stack s H E0).nox bg t ∧ t { nx := fun _ H' => Q .non H', rt := Q } (L2.start Ng [.ref f, v]) H
def tLam2 (T : List (Addr × Str)) (q : Str) (TT : (XK → Hp → VK → Prop) → V → Hp → VK → Prop) (t : XK → TE) (t2 : TE) : TE := fun σ H Q => LamX.Tabs T H ∧ ∀ H1, LamX.ExtN H H1 → LamX.Tabs T H1 → ∀ c', H1 c' = some (LamX.CodeO c' q) → t2 σ H1 fun v H2 => H2 c' = some (LamX.CodeO c' q) ∧ TT (fun E H' Q' => t E σ H' Q') v H2 Q
/-- x(lambda: body, e2) -/
theorem pe_lamcall2 {k : Nat} {T : List (Addr × Str)} {TT : (XK → Hp → VK → Prop) → V → Hp → VK → Prop} {x a b : Str} {g c P : Addr} {pg : Arguments} {bg : List Stmt} {sg : Scope} {dV kV doc pm cdv ct oc : Value} {an od : Option Addr} {osl : Array (Option Value)} {Ng : List Str}
    {params : Arguments} {body e2 : Expr} {scope : Scope} {t : XK → TE} {t2 : TE} {p lpos pos : Pos} (hg : Gl X x) (hm : X.mg x = some (.ref g)) (hk : PySem.W.keepIn X.K (.ref g) = true)
    (lk : X.K.lookup g = some ⟨oc, od, .func (PySem.W.fnOf x x pg bg sg dV kV doc pm an cdv ct), osl⟩) (hcg : PySem.W.codeIn X.K cdv x = true) (hb : L2.Binds X.K (PySem.W.fnOf x x pg bg sg dV kV doc pm an cdv ct) [a, b] []) (Sg : FnScope Ng [a, b] sg)
    (hG : ∀ tl f c', Gives2 k X Ng x sg g cdv bg (X.env.qual ++ "<lambda>") tl f c' TT)
    (TB : LamX.TabB X.base X.mg c P) (hcode : X.env.code = .ref c) (hmT : (P, X.env.qual ++ "<lambda>") ∈ T) (hu : ∀ p ∈ T, p.1 = P → p.2 = X.env.qual ++ "<lambda>") (hr : Room (k + 3) X.A) (L : LamX.LamS X.env.scope scope) (hdef : defaultsOf params X.env = ([], []))
    (hst : X.stack = X.env :: X.outer) (hfm : X.env.frame = some X.env.locals)
    (hbind : ∀ (q : Str) (cl : List (Str × Addr)) (pm cv ctv : Value), bindArgs (PySem.W.kla_fn "<lambda>" q params body scope cl pm cv ctv) ⟨[], []⟩ = pure [])
    (hbody : ∀ (A : Around) (outer : List Env) (s : Shared) (H : Hp) (E : XK) (f c' : Addr), Room k (A.deeper (LamX.lamEnv X scope s.heap.objs.size f c')) → PE (LamX.lamCx X A outer s H E scope f c') body (t E))
    (h2 : PE X e2 t2) (hs2 : starEach [e2] X.env = [(false, eval e2 X.env)] := by rfl)
    (hdb : (x == ("__debug__" : Str)) = false := by decide) :
    PE X (.Call (.Name x p) [.Lambda params body scope lpos, e2] [] pos) (tLam2 T (X.env.qual ++ "<lambda>") TT t t2) := by
  constructor
  rintro pins s σ H Q I ⟨hT, h⟩
  refine wpAny_Call_Name_kw (ld_glob I hg hm ?_ hdb)
  have star : starEach [.Lambda params body scope lpos, e2] X.env = [(false, eval (.Lambda params body scope lpos) X.env), (false, eval e2 X.env)] := by
    rw [← hs2]
    rfl
  refine PySem.W.callWith_K (h₀ := X.base) I.ok.mod.kin hk ?_ (by rw [star, hs2]) (by rw [hs2]; rfl)
  rw [star]
  show wpAny _ _ (spliced [(false, eval (.Lambda params body scope lpos) X.env), (false, eval e2 X.env)]) _ _ s
  refine Calls.spliced_cons (LamX.lam_make2 I TB hcode hmT hu hT hdef (L.has I.ok) fun f c' pm' ctv H1 s' I1 eN T1 hf hfn hfr hco => ?_)
  have inst : X.env.locals ∈ frs X.stack ∧ ∀ b ∈ X.fs, b ∈ frs X.stack := by
    rw [hst]
    constructor
    · exact List.mem_filterMap.mpr ⟨X.env, List.mem_cons_self, hfm⟩
    · intro b hb
      obtain ⟨e, m, k⟩ := List.mem_filterMap.mp hb
      exact List.mem_filterMap.mpr ⟨e, List.mem_cons_of_mem _ m, k⟩
  have I2 : Inv X ((f, lamO X params body scope pm' ctv c') :: pins) σ H1 s' := I1.pins_of fun p hp => by
    rcases List.mem_cons.mp hp with e | m
    · rw [e]
      exact ⟨hf, hfn, fun z => hfr (by rw [show f = X.env.locals from z]; exact inst.1), fun z => hfr (inst.2 _ z), fun v z => (by cases z)⟩
    · exact I1.pin p (List.mem_append_right _ m)
  refine Calls.spliced_cons (wpAny_mono (h2.run _ s' σ H1 _ I2 (h H1 eN T1 c' hco)) ?_ fun e s' z => z)
  rintro u s2 ⟨v, H2, J, rv, hc2, tt⟩
  obtain ⟨k1, k2, _, _, _⟩ := J.pin (f, lamO X params body scope pm' ctv c') (List.mem_append_right _ List.mem_cons_self)
  have J' : Inv X pins σ H2 s2 := J.pins_of fun p hp => J.pin p (by
    rcases List.mem_append.mp (show p ∈ X.pn ++ pins from List.mem_append_right _ hp) with m | m
    · exact List.mem_append_left _ m
    · exact List.mem_append_right _ (List.mem_cons_of_mem _ m))
  refine Calls.spliced_nil ⟨J'.kIn, ?_⟩
  have rc : codeAny (model X.prog X.w) X.A (.call (.ref g) ⟨[.ref f, u], []⟩) (CR CX0 X.stack X.prog X.w H2 s2 Q E0) s2 := by
    refine LamX.run_ofS (k := k + 2) (N := Ng) (ps := [a, b]) (us := [.ref f, u]) (vs := [.ref f, v]) lk hcg Sg hr J'.env0 (hb s2 [.ref f, u] J'.kIn rfl) (.cons rfl (.cons rv .nil)) rfl fun _ => ?_
    obtain ⟨t', ht', hq'⟩ := hG (fun E H' Q' => t E σ H' Q') f c' s2 H2 Q v (fun {CXg Eg N2 q2 sg2 g2 cd2 a W pn xe E p1 p2 A2 stk s3 H3} hun tk hW hr' hN hv hd hcd =>
      pe_actN (k := k) J' L k1 k2 hfr hun (hbind _ _ _ _ _) tk hW hr' (fun A outer s H hr2 => hbody A outer s H E f c' hr2) hN hv hd hcd) hc2 tt
    exact ⟨t', ht'.nox, hq'⟩
  refine wpAny_call (codeAny_mono rc ?_)
  rintro (e | fl) s' q
  · exact (show False from q).elim
  · cases fl with
    | ret u => exact J'.after q
    | next => exact q.elim
    | brk => exact q.elim
    | cont => exact q.elim
/-- x(y): y bears the lambda, x is the def that calls it -/
theorem pe_handed {x a y q : Str} {g f c' : Addr} {pg : Arguments} {bg : List Stmt} {sg : Scope} {dV kV doc pm cdv ct oc : Value} {an od : Option Addr} {osl : Array (Option Value)} {N2 : List Str} {TT : (XK → Hp → VK → Prop) → Hp → VK → Prop} {tl : XK → Hp → VK → Prop} {i k : Nat} {p p2 pos : Pos}
    (hg : Gl X x) (hm : X.mg x = some (.ref g)) (hk : PySem.W.keepIn X.K (.ref g) = true)
    (lk : X.K.lookup g = some ⟨oc, od, .func (PySem.W.fnOf x x pg bg sg dV kV doc pm an cdv ct), osl⟩) (hcg : PySem.W.codeIn X.K cdv x = true) (hb : L2.Binds X.K (PySem.W.fnOf x x pg bg sg dV kV doc pm an cdv ct) [a] []) (Sg : FnScope N2 [a] sg)
    (hG : LamX.GivesTo X N2 x sg g cdv bg a q TT) (hr : Room (k + 1) X.A)
    (hact : ∀ (pins : List (Addr × Obj)) (σ : L2.St) (s1 : Shared) (H1 : Hp), Inv X pins σ H1 s1 → ∀ (W : WX) (pn : List (Addr × Obj)) (xe : Value → Shared → Prop) (E : XK) (p1 p2 : Pos), Takes ((cxOf CX0 X.prog X.w X.K X.mg X.base N2 x sg g cdv X.A X.stack s1 H1 E0).tr pn xe) W → (∀ cls d σ' H', E cls d H' → W cls d σ' H') →
      PE ((cxOf CX0 X.prog X.w X.K X.mg X.base N2 x sg g cdv X.A X.stack s1 H1 E0).tr pn xe) (.Call (.Name a p1) [] [] p2) (fun σZ HZ Q => σZ[0]? = some (some (.ref f)) ∧ HZ c' = some (LamX.CodeO c' q) ∧ tl E HZ Q))
    (hy : PE X (.Name y p2) (tVar i)) (hdb : (x == ("__debug__" : Str)) = false := by decide) :
    PE X (.Call (.Name x p) [.Name y p2] [] pos) (fun σ H Q => σ[i]? = some (some (.ref f)) ∧ H c' = some (LamX.CodeO c' q) ∧ TT tl H Q) := by
  constructor
  rintro pins s σ H Q I ⟨at0, hc, tt⟩
  refine wpAny_Call_Name_kw (ld_glob I hg hm ?_ hdb)
  refine PySem.W.callWith_K (h₀ := X.base) I.ok.mod.kin hk ?_ (by rfl) (by rfl)
  show wpAny _ _ (spliced [(false, eval (.Name y p2) X.env)]) _ _ s
  refine Calls.spliced_cons (wpAny_mono (hy.run pins s σ H (fun v H1 => v = .ref f ∧ H1 = H) I ⟨.ref f, at0, rfl, rfl⟩) ?_ fun e s' z => z)
  rintro u s1 ⟨v, H1, J, rv, rfl, rfl⟩
  obtain rfl : u = Value.ref f := rv
  refine Calls.spliced_nil ⟨J.kIn, ?_⟩
  have rc : codeAny (model X.prog X.w) X.A (.call (.ref g) ⟨[.ref f], []⟩) (CR CX0 X.stack X.prog X.w H1 s1 Q E0) s1 := by
    refine LamX.run_ofS (k := k) (N := N2) (ps := [a]) (us := [.ref f]) (vs := [.ref f]) lk hcg Sg hr J.env0 (hb s1 [.ref f] J.kIn rfl) (.cons rfl .nil) rfl fun _ => ?_
    obtain ⟨t', ht', hq'⟩ := hG f c' s1 H1 Q tl (hact pins σ s1 H1 J) hc tt
    exact ⟨t', ht'.nox, hq'⟩
  refine wpAny_call (codeAny_mono rc ?_)
  rintro (e | fl) s' q
  · exact (show False from q).elim
  · cases fl with
    | ret u => exact J.after q
    | next => exact q.elim
    | brk => exact q.elim
    | cont => exact q.elim
/-- the same, with a way on that is told -/
theorem pe_up {e : Expr} {te : TE} (h : PE X e te) : PE X e (fun σ H Q => ∃ Q0, te σ H Q0 ∧ ∀ v H1, Q0 v H1 → Q v H1) := by
  constructor
  rintro pins s σ H Q I ⟨Q0, a, b⟩
  refine wpAny_mono (h.run pins s σ H Q0 I a) ?_ fun _ _ z => z
  rintro u s' ⟨v, H', J, r, q⟩
  exact ⟨v, H', J, r, b _ _ q⟩
/-- f(lambda: body, e2), f the def that hands it on -/
theorem pe_raises {k : Nat} {x a b : Str} {st : Stmt} {g c P : Addr} {fdg : FuncData} {Ng : List Str} {TT : (XK → Hp → VK → Prop) → V → Hp → VK → Prop} {params : Arguments} {body e2 : Expr} {scope : Scope} {t : XK → TE} {t2 : TE} {p lpos pos : Pos} (Fg : Fun X.K x x st g fdg) (hm : X.mg x = some (.ref g)) (hb : Binds X.K fdg [a, b] []) (hg : Gl X x)
    (Sg : FnScope Ng [a, b] (defScope st)) (hG : ∀ (cdg : Value) tl f c', Gives2 k X Ng x (defScope st) g cdg (defBody st) (X.env.qual ++ "<lambda>") tl f c' TT)
    (TB : LamX.TabB X.base X.mg c P) (hcode : X.env.code = .ref c) (hr : Room (k + 3) X.A) (L : LamX.LamS X.env.scope scope) (hdef : defaultsOf params X.env = ([], [])) (hst : X.stack = X.env :: X.outer) (hfm : X.env.frame = some X.env.locals)
    (hbind : ∀ (q : Str) (cl : List (Str × Addr)) (pm cv ctv : Value), bindArgs (PySem.W.kla_fn "<lambda>" q params body scope cl pm cv ctv) ⟨[], []⟩ = pure [])
    (hbody : ∀ (A : Around) (outer : List Env) (s : Shared) (H : Hp) (E : XK) (f c' : Addr), Room k (A.deeper (LamX.lamEnv X scope s.heap.objs.size f c')) → PE (LamX.lamCx X A outer s H E scope f c') body (t E))
    (h2 : PE X e2 t2) (hs2 : starEach [e2] X.env = [(false, eval e2 X.env)] := by rfl) (hdb : (x == ("__debug__" : Str)) = false := by decide) :
    PE X (.Call (.Name x p) [.Lambda params body scope lpos, e2] [] pos) (tLam2 [(P, X.env.qual ++ "<lambda>")] (X.env.qual ++ "<lambda>") TT t t2) := by
  obtain ⟨oc, od, kV, doc, pm, an, cdv, ct, osl, rfl, lk, hco⟩ := Fg.ex
  exact pe_lamcall2 hg hm Fg.kp lk hco hb Sg (hG _) TB hcode (List.mem_singleton.mpr rfl) (fun p hp _ => by rw [List.mem_singleton.mp hp]) hr L hdef hst hfm hbind hbody h2 hs2 hdb
/-- what a try tells of an error: its code, its fields; of a value: no code, the value -/
def TTold (K : PySem.W.Frag) (mg : Str → Option Value) (Fl : Str → List (Str × V) → List V → Prop) : (XK → Hp → VK → Prop) → Hp → VK → Prop := fun tl H Q =>
  ∀ p0, H p0 = none → tl (fun cls d H' => ∃ code fs ws, IsExc K mg code fs cls d H' ∧ Fl code fs ws ∧ ws.length ≤ 1000 ∧ ∀ r u H'', Same H' H'' → H'' u = some (.tup ws) → H'' r = some (.tup [.str code, .ref u]) → Q (.ref r) H'')
    (upd H p0 (.tup [.str "", .non])) fun v H1 => ∀ r H2, Same H1 H2 → H2 r = some (.tup [.str "", v]) → Q (.ref r) H2
end
end Th
namespace Th
open PySem PySem.Spec PyProof.Rows L2
def topS (i : Nat) : Stmt := PySem.Challenge.pw_threeorders_k51_ring_orders_judged.main.body.getD i (.Pass ⟨0, 0, 0, 0⟩)
end Th
namespace Th
open PySem PySem.Spec PyProof.Rows L2
abbrev s_l_bag : Stmt := topS 23
theorem sc_l_bag : FnScope ["_law_script", "_law_cells", "_law_cell", "_law_mark"] ["_law_script"] (defScope s_l_bag) := ⟨rfl, rfl, rfl, by decide +kernel, rfl, by decide +kernel, by decide +kernel⟩
/-- the list that draws is made -/
def spBag (K : PySem.W.Frag) : Sp := fun vs H Q _ => ∃ (a : Addr) (ns : List Int), vs = [.ref a] ∧ SqL K H a (ns.map V.int) ∧ ns.length ≤ 63 ∧
  ∀ H' (D : DS), Same H H' → H D.p = none → H D.l = none → Drw D H' → Q (.ref D.p) H'
section
variable {P : Program} {w : World} {K : PySem.W.Frag} {mg : Str → Option Value} {base : Heap}
theorem has_l_bag (Z : Zs mg) (A : At K mg "_law_bag" s_l_bag ["_law_script"]) : Has P w K mg base "_law_bag" s_l_bag 1 ["_law_script"] (spBag K) := by
  obtain ⟨f, fd, F, mg1, bd⟩ := A
  refine ⟨f, fd, ?_, mg1, F.kp, bd, F⟩
  refine F.ok sc_l_bag (fun vs H Q E h => ?_) (fun cdv A outer s H vs Q E hr h => ?_)
  · obtain ⟨a, ns, rfl, _⟩ := h
    rfl
  · obtain ⟨a, ns, rfl, hS, hlen, q⟩ := h
    refine ⟨_, (pss_cons (ps_setLc (i := 1) (own := [("_law_cell", 2)]) (g := gName 2) (by rfl) sc_l_bag.nd rfl rfl (sw_true rfl rfl rfl (by decide +kernel)) (pi_list (pe_slice sl_list (pv 0) po_none (po_some pe_int))) (blkOk_by (own := [("_law_cell", 2)]) (N := ["_law_script", "_law_cells", "_law_cell", "_law_mark"]) (sc := defScope s_l_bag) (by decide +kernel)) (fun _ _ _ _ _ => pg_name (i := 2) sc_l_bag.nd rfl (Or.inl rfl)) (fun _ _ _ _ _ => pts_nil) (fun _ _ _ _ _ => (pe_callTy call_int1 (by rfl) Z.int_ (by decide +kernel) (pa_cons (pv 2) pa_nil)))) (pss_cons (ps_set (i := 3) sc_l_bag.nd rfl (Or.inl rfl) (pe_op op_add pe_int (pe_op op_mul pe_int (pe_callB call_len_seq (by rfl) Z.len_ (by decide +kernel) (pa_cons (pv 1) pa_nil))))) (pss_cons (ps_for PassesOwn.never rfl (pi_list (pv 1)) (pg_name (i := 2) sc_l_bag.nd rfl (Or.inl rfl)) (pss_one (ps_set (i := 3) sc_l_bag.nd rfl (Or.inl rfl) (pe_op op_mod (pe_callTy call_int1 (by rfl) Z.int_ (by decide +kernel) (pa_cons (pe_op op_add (pe_op op_add (pe_op op_mul (pv 3) pe_int) (pe_op op_mul (pv 2) pe_int)) pe_int) pa_nil)) pe_int)))) (pss_one (ps_ret (pe_lst (pa_cons (pv 1) (pa_cons pe_int (pa_cons pe_int (pa_cons (pv 3) (pa_cons pe_int pa_nil))))))))))), ?_⟩
    have hl : (ns.map V.int).length ≤ 63 := by rw [List.length_map]; exact hlen
    refine ⟨_, rfl, 63, rfl, a, ns.map V.int, rfl, hS, fun c2 nc2 => ?_⟩
    rw [cut_none _ hl]
    have s3 : Same H (upd H c2 (.lst (ns.map V.int))) := same_new nc2
    refine ⟨c2, rfl, ⟨_, .inl (.inl upd_same)⟩, fun l nl => ?_⟩
    have ncl : c2 ≠ l := fun e => by rw [← e, upd_same] at nl; cases nl
    refine lc_list (K := K) (a := c2) (xs := ns.map V.int) (fun i H3 => Same H H3 ∧ H3 c2 = some (.lst (ns.map V.int)) ∧ H3 l = some (.lst ((ns.take i).map V.int)))
      ⟨s3.trans (same_new nl), by rw [upd_ne ncl]; exact upd_same, upd_same⟩ (fun i H3 _ ⟨_, e, _⟩ => .inl (.inl e)) ?_ ?_
    · rintro i y H3 hi ⟨s4, e4, e5⟩
      obtain ⟨z, hz, rfl⟩ := getmap hi
      have hz' := lt_of_get hz
      refine ⟨rfl, _, rfl, .inl ⟨_, rfl, _, e5, slineL (by rw [List.length_map, List.length_take]; omega), ?_⟩⟩
      refine ⟨same_mut s4 (s3.free nl), by rw [upd_ne ncl]; exact e4, ?_⟩
      rw [upd_same, take_succ_map hz]
    rintro H3 ⟨s4, e4, e5⟩
    rw [List.length_map, List.take_length] at e5
    have lm : (ns.map V.int).length = ns.length := List.length_map _
    refine ⟨_, rfl, l, _, rfl, .inl (.inl (.inl e5)), _, _, rfl, rfl, .inl ⟨by decide, by decide⟩, _, _, rfl, rfl, ?_⟩
    refine ⟨_, rfl, l, rfl, ⟨_, .inl (.inl e5)⟩, for_list (K := K) (a := l) (xs := ns.map V.int) (fun i σ H2 => ∃ (m : Int) (y : Option V), σ = [some (.ref a), some (.ref l), y, some (.int m)] ∧ Same H H2 ∧ H2 l = some (.lst (ns.map V.int)) ∧ 0 ≤ m ∧ m < 2147483648)
      ⟨_, none, rfl, s4, e5, by rw [lm]; omega, by rw [lm]; omega⟩ (fun i σ H2 _ ⟨_, _, _, _, e, _⟩ => .inl (.inl e)) ?_ ?_⟩
    · rintro i y σ H2 hi ⟨m, y', rfl, s2, e2, m0, m1⟩
      obtain ⟨z, _, rfl⟩ := getmap hi
      refine ⟨_, rfl, _, _, rfl, rfl, .inr ⟨by decide, by decide⟩, _, rfl, _, _, rfl, rfl, .inr ⟨by decide, by decide⟩, _, _, rfl, rfl, _, _, rfl, rfl, .inl ⟨_, rfl, _, _, rfl, rfl, (by show (0 : Int) < 2147483629; decide), ?_⟩⟩
      exact ⟨_, _, rfl, s2, e2, Int.emod_nonneg _ (by decide), Int.lt_trans (Int.emod_lt_of_pos (b := 2147483629) _ (by decide)) (by decide)⟩
    · rintro σ H2 ⟨m, y', rfl, s2, e2, m0, m1⟩
      refine ⟨_, rfl, _, rfl, (by show 5 ≤ sizeLine; decide), fun p np => ?_⟩
      refine q _ ⟨p, l, ns⟩ (s2.trans (same_new np)) (s2.free np) (s3.free nl) ⟨ne_of_none e2 np, ?_, hlen, 0, 0, m, 0, upd_same, by decide, by decide, m0, m1, by decide⟩
      rw [upd_ne (ne_of_none e2 np)]
      exact e2
end
end Th
namespace Th
open PySem PySem.Spec PyProof.Rows L2
abbrev s_l_draw : Stmt := topS 24
theorem sc_l_draw : FnScope ["_law_bag_here", "_law_many", "_law_cell", "_law_digit", "_law_step"] ["_law_bag_here", "_law_many"] (defScope s_l_draw) := ⟨rfl, rfl, rfl, by decide +kernel, rfl, by decide +kernel, by decide +kernel⟩
/-- a number below n is drawn -/
def spDraw : Sp := fun vs H Q _ => ∃ (D : DS) (n : Int), vs = [.ref D.p, .int n] ∧ Drw D H ∧ 0 < n ∧ n < 1073741824 ∧ ∀ (r : Int) H', 0 ≤ r → r < n → Go D H H' → Q (.int r) H'
/-- the list that draws holds other numbers -/
theorem Go.put {D : DS} {H : Hp} (ne : D.l ≠ D.p) (sc : H D.l = some (.lst (D.ns.map V.int))) (few : D.ns.length ≤ 63) {xs : List V} (st : H D.p = some (.lst xs)) {H' : Hp} {i v m c : Int} (e : H' = upd H D.p (.lst [.ref D.l, .int i, .int v, .int m, .int c]))
    (hi : 0 ≤ i) (hv : 0 ≤ v) (m0 : 0 ≤ m) (m1 : m < 2147483648) (hc : 0 ≤ c) : Go D H H' := by
  subst e
  refine ⟨fun a o h => ?_, ne, ?_, few, i, v, m, c, upd_same, hi, hv, m0, m1, hc⟩
  · obtain ⟨z, h⟩ := hid_some h
    rw [hid_ne z, upd_ne z]
    exact h
  · rw [upd_ne ne]
    exact sc
section
variable {P : Program} {w : World} {K : PySem.W.Frag} {mg : Str → Option Value} {base : Heap}
theorem has_l_draw (Z : Zs mg) (A : At K mg "_law_draw" s_l_draw ["_law_bag_here", "_law_many"]) : Has P w K mg base "_law_draw" s_l_draw 1 ["_law_bag_here", "_law_many"] (spDraw) := by
  obtain ⟨f, fd, F, mg1, bd⟩ := A
  refine ⟨f, fd, ?_, mg1, F.kp, bd, F⟩
  refine F.ok sc_l_draw (fun vs H Q E h => ?_) (fun cdv A outer s H vs Q E hr h => ?_)
  · obtain ⟨D, n, rfl, _⟩ := h
    rfl
  · obtain ⟨D, n, rfl, d, n0, n1, q⟩ := h
    obtain ⟨ne, sc, few, i, v, m, c, st, hi, hv, m0, m1, hc⟩ := id d
    refine ⟨_, (C8.pss_cut (ps_if (PW.pt (pw_and (pt_cmpR op_eq (pe_ix ix_list (pv 0) pe_int (fun _ _ => rfl)) pe_int (nomark _)) (pw_and1 (pt_cmpR op_lt (pe_ix ix_list (pv 0) pe_int (fun _ _ => rfl)) (pe_callB call_len_seq (by rfl) Z.len_ (by decide +kernel) (pa_cons (pe_ix ix_list (pv 0) pe_int (fun _ _ => rfl)) pa_nil)) (nomark _))))) (pss_cons (ps_set (i := 2) sc_l_draw.nd rfl (Or.inl rfl) (pe_ix ix_list (pe_ix ix_list (pv 0) pe_int (fun _ _ => rfl)) (pe_ix ix_list (pv 0) pe_int (fun _ _ => rfl)) (fun _ _ => rfl))) (pss_cons (ps_asg (pe_op op_add (pe_ix ix_list (pv 0) pe_int (fun _ _ => rfl)) pe_int) (pg_sub (pv 0) pe_int set_list)) (pss_one (ps_if (pt_cmpR op_ge (pv 2) (pe_op op_pow pe_int pe_int) (nomark _)) (pss_one (ps_asg (pv 2) (pg_sub (pv 0) pe_int set_list))) (pss_one (ps_asg (pe_op op_mod (pe_callTy call_int1 (by rfl) Z.int_ (by decide +kernel) (pa_cons (pe_op op_add (pe_op op_add (pe_op op_mul (pe_ix ix_list (pv 0) pe_int (fun _ _ => rfl)) pe_int) (pe_op op_mul (pv 2) pe_int)) pe_int) pa_nil)) pe_int) (pg_sub (pv 0) pe_int set_list))))))) pss_nil) (pss_cons (ps_if (pt_cmpR op_gt (pe_ix ix_list (pv 0) pe_int (fun _ _ => rfl)) pe_int (nomark _)) (pss_cons (ps_set (i := 3) sc_l_draw.nd rfl (Or.inl rfl) (pe_op op_mod (pe_callTy call_int1 (by rfl) Z.int_ (by decide +kernel) (pa_cons (pe_ix ix_list (pv 0) pe_int (fun _ _ => rfl)) pa_nil)) (pv 1))) (pss_cons (ps_asg (pe_op op_fdiv (pe_ix ix_list (pv 0) pe_int (fun _ _ => rfl)) (pv 1)) (pg_sub (pv 0) pe_int set_list)) (pss_one (ps_ret (pv 3))))) pss_nil) (pss_cons (ps_asg (pe_op op_add (pe_ix ix_list (pv 0) pe_int (fun _ _ => rfl)) pe_int) (pg_sub (pv 0) pe_int set_list)) (pss_cons (ps_set (i := 4) sc_l_draw.nd rfl (Or.inl rfl) (pe_op op_mod (pe_callTy call_int1 (by rfl) Z.int_ (by decide +kernel) (pa_cons (pe_op op_add (pe_ix ix_list (pv 0) pe_int (fun _ _ => rfl)) (pe_op op_mul (pe_ix ix_list (pv 0) pe_int (fun _ _ => rfl)) pe_int)) pa_nil)) pe_int)) (pss_cons (ps_asg (pe_op op_mod (pe_callTy call_int1 (by rfl) Z.int_ (by decide +kernel) (pa_cons (pe_op op_add (pe_op op_add (pe_op op_mul (pe_op op_mul (pv 4) (pv 4)) (pv 4)) (pe_op op_mul (pv 4) pe_int)) pe_int) pa_nil)) pe_int) (pg_sub (pv 0) pe_int set_list)) (pss_one (ps_ret (pe_op op_mod (pe_callTy call_int1 (by rfl) Z.int_ (by decide +kernel) (pa_cons (pe_op op_add (pe_op op_fdiv (pe_ix ix_list (pv 0) pe_int (fun _ _ => rfl)) pe_int) (pe_op op_mul (pe_op op_mod (pe_callTy call_int1 (by rfl) Z.int_ (by decide +kernel) (pa_cons (pe_ix ix_list (pv 0) pe_int (fun _ _ => rfl)) pa_nil)) pe_int) pe_int)) pa_nil)) (pv 1))))))))), ?_⟩
    have ix0 : ∀ i v m c : Int, atI [V.ref D.l, .int i, .int v, .int m, .int c] 0 = some (.ref D.l) := fun _ _ _ _ => rfl
    have ix1 : ∀ i v m c : Int, atI [V.ref D.l, .int i, .int v, .int m, .int c] 1 = some (.int i) := fun _ _ _ _ => rfl
    have ix2 : ∀ i v m c : Int, atI [V.ref D.l, .int i, .int v, .int m, .int c] 2 = some (.int v) := fun _ _ _ _ => rfl
    have ix3 : ∀ i v m c : Int, atI [V.ref D.l, .int i, .int v, .int m, .int c] 3 = some (.int m) := fun _ _ _ _ => rfl
    have ix4 : ∀ i v m c : Int, atI [V.ref D.l, .int i, .int v, .int m, .int c] 4 = some (.int c) := fun _ _ _ _ => rfl
    refine ⟨fun σ H1 => ∃ (i v m : Int) (y : Option V), σ = [some (.ref D.p), some (.int n), y, none, none] ∧ H1 D.p = some (.lst [.ref D.l, .int i, .int v, .int m, .int c]) ∧ H1 D.l = some (.lst (D.ns.map V.int)) ∧ Go D H H1 ∧ 0 ≤ i ∧ 0 ≤ v ∧ 0 ≤ m ∧ m < 2147483648, ?_, ?_⟩
    · -- a cell of the script is taken, or not
      have stay : ∃ (i v m : Int) (y : Option V), [some (V.ref D.p), some (V.int n), none, none, none] = [some (.ref D.p), some (.int n), y, none, none] ∧ H D.p = some (.lst [.ref D.l, .int i, .int v, .int m, .int c]) ∧ H D.l = some (.lst (D.ns.map V.int)) ∧ Go D H H ∧ 0 ≤ i ∧ 0 ≤ v ∧ 0 ≤ m ∧ m < 2147483648 :=
        ⟨i, v, m, none, rfl, st, sc, .refl d, hi, hv, m0, m1⟩
      refine ⟨_, rfl, D.p, _, _, _, rfl, rfl, .inl (.inl st), ix2 _ _ _ _, rfl, _, rfl, ?_⟩
      refine ite2 (fun hv0 => ?_) (fun hv0 => iteF stay)
      refine ⟨_, rfl, D.p, _, _, _, rfl, rfl, .inl (.inl st), ix1 _ _ _ _, _, rfl, D.p, _, _, _, rfl, rfl, .inl (.inl st), ix0 _ _ _ _, D.l, _, rfl, .inl (.inl (.inl sc)), _, _, rfl, rfl, _, rfl, ?_⟩
      refine ite2 (fun hi1 => ?_) (fun hi1 => stay)
      have hi2 : i < D.ns.length := by
        have := of_decide_eq_true hi1
        rw [List.length_map] at this
        exact this
      obtain ⟨z, hz⟩ : ∃ z, D.ns[i.toNat]? = some z := ⟨_, List.getElem?_eq_getElem (by omega)⟩
      -- cell = state[0][state[1]]
      refine ⟨_, rfl, D.p, _, _, _, rfl, rfl, .inl (.inl st), ix0 _ _ _ _, _, rfl, D.p, _, _, _, rfl, rfl, .inl (.inl st), ix1 _ _ _ _, D.l, _, _, _, rfl, rfl, .inl (.inl sc), atI_of hi (by rw [List.getElem?_map, hz]; rfl), ?_⟩
      -- state[1] = state[1] + 1
      refine ⟨_, rfl, D.p, _, _, _, rfl, rfl, .inl (.inl st), ix1 _ _ _ _, _, _, rfl, rfl, _, rfl, D.p, _, _, 1, rfl, rfl, st, rfl, ?_⟩
      have g1 : Go D H (upd H D.p (.lst [V.ref D.l, .int (i + 1), .int v, .int m, .int c])) := Go.put ne sc few st rfl (by omega) hv m0 m1 hc
      have e1 : (upd H D.p (.lst [V.ref D.l, .int (i + 1), .int v, .int m, .int c])) D.l = some (.lst (D.ns.map V.int)) := by rw [upd_ne ne]; exact sc
      -- if abs(cell) is great
      refine ⟨_, rfl, _, _, rfl, rfl, ⟨by decide, by decide, by decide⟩, _, _, rfl, rfl, _, rfl, ?_⟩
      refine ite2 (fun hb => ?_) (fun hb => ?_)
      · refine ⟨_, rfl, _, rfl, D.p, _, _, 2, rfl, rfl, upd_same, rfl, ?_⟩
        rw [upd_upd]
        have hz1 : (10 : Int) ^ 18 ≤ z := of_decide_eq_true hb
        have hz0 : 0 ≤ z := Int.le_trans (by decide) hz1
        exact ⟨i + 1, _, m, _, rfl, upd_same, by rw [upd_ne ne]; exact sc, Go.put ne sc few st rfl (by omega) hz0 m0 m1 hc, by omega, hz0, m0, m1⟩
      · refine ⟨_, rfl, D.p, _, _, _, rfl, rfl, .inl (.inl upd_same), ix3 _ _ _ _, _, _, rfl, rfl, .inr ⟨by decide, by decide⟩, _, rfl, _, _, rfl, rfl, .inr ⟨by decide, by decide⟩, _, _, rfl, rfl, _, _, rfl, rfl, .inl ⟨_, rfl, _, _, rfl, rfl, (by show (0 : Int) < 2147483629; decide), _, rfl, D.p, _, _, 3, rfl, rfl, upd_same, rfl, ?_⟩⟩
        rw [upd_upd]
        exact ⟨i + 1, v, _, _, rfl, upd_same, by rw [upd_ne ne]; exact sc, Go.put ne sc few st rfl (by omega) hv (Int.emod_nonneg _ (by decide)) (Int.lt_trans (Int.emod_lt_of_pos (b := 2147483629) _ (by decide)) (by decide)) hc, by omega, hv, Int.emod_nonneg _ (by decide), Int.lt_trans (Int.emod_lt_of_pos (b := 2147483629) _ (by decide)) (by decide)⟩
    · -- a digit of the great number, or a fresh one
      rintro σ H1 ⟨i, v, m, y, rfl, st, sc, g, hi, hv, m0, m1⟩
      refine ⟨_, rfl, D.p, _, _, _, rfl, rfl, .inl (.inl st), ix2 _ _ _ _, _, _, rfl, rfl, _, rfl, ?_⟩
      refine ite2 (fun hv0 => ?_) (fun hv0 => ?_)
      · refine ⟨_, rfl, D.p, _, _, _, rfl, rfl, .inl (.inl st), ix2 _ _ _ _, .inl ⟨_, rfl, _, rfl, _, _, rfl, rfl, n0, ?_⟩⟩
        refine ⟨_, rfl, D.p, _, _, _, rfl, rfl, .inl (.inl st), ix2 _ _ _ _, _, rfl, _, _, rfl, rfl, ⟨n0, n1⟩, _, rfl, D.p, _, _, 2, rfl, rfl, st, rfl, ?_⟩
        refine ⟨_, rfl, ?_⟩
        exact q _ _ (Int.emod_nonneg _ (by omega)) (Int.emod_lt_of_pos _ n0) (g.trans (Go.put ne sc few st rfl hi (Int.ediv_nonneg hv (by omega)) m0 m1 hc))
      · -- state[4] = state[4] + 1
        refine ⟨_, rfl, D.p, _, _, _, rfl, rfl, .inl (.inl st), ix4 _ _ _ _, _, _, rfl, rfl, _, rfl, D.p, _, _, 4, rfl, rfl, st, rfl, ?_⟩
        have st2 : (upd H1 D.p (.lst [V.ref D.l, .int i, .int v, .int m, .int (c + 1)])) D.p = some (.lst [V.ref D.l, .int i, .int v, .int m, .int (c + 1)]) := upd_same
        refine ⟨_, rfl, D.p, _, _, _, rfl, rfl, .inl (.inl st2), ix3 _ _ _ _, _, rfl, D.p, _, _, _, rfl, rfl, .inl (.inl st2), ix4 _ _ _ _, _, _, rfl, rfl, .inr ⟨by decide, by decide⟩, _, _, rfl, rfl, .inl ⟨_, rfl, _, _, rfl, rfl, (by show (0 : Int) < 2147483629; decide), ?_⟩⟩
        obtain ⟨t, ht, t0, t1⟩ : ∃ t : Int, t = (m + (c + 1) * 7477) % 2147483629 ∧ 0 ≤ t ∧ t < 2147483629 := ⟨_, rfl, Int.emod_nonneg _ (by decide), Int.emod_lt_of_pos _ (by decide)⟩
        show gName 4 (V.int ((m + (c + 1) * 7477) % 2147483629)) _ _ _
        rw [← ht]
        refine ⟨_, rfl, _, rfl, _, _, rfl, rfl, .inl ⟨by omega, by omega⟩, _, rfl, _, _, rfl, rfl, .inr ⟨by omega, by omega⟩, _, rfl, _, _, rfl, rfl, .inr ⟨by decide, by decide⟩, _, _, rfl, rfl, _, _, rfl, rfl, .inl ⟨_, rfl, _, _, rfl, rfl, (by show (0 : Int) < 2147483629; decide), _, rfl, D.p, _, _, 3, rfl, rfl, st2, rfl, ?_⟩⟩
        rw [upd_upd]
        have st3 : ∀ r : Int, (upd H1 D.p (.lst [V.ref D.l, .int i, .int v, .int r, .int (c + 1)])) D.p = some (.lst [V.ref D.l, .int i, .int v, .int r, .int (c + 1)]) := fun r => upd_same
        refine ⟨_, rfl, D.p, _, _, _, rfl, rfl, .inl (.inl (st3 _)), ix3 _ _ _ _, _, _, rfl, rfl, ⟨by decide, by decide⟩, _, rfl, D.p, _, _, _, rfl, rfl, .inl (.inl (st3 _)), ix3 _ _ _ _, .inl ⟨_, rfl, _, _, rfl, rfl, (by show (0 : Int) < 6607; decide), _, _, rfl, rfl, .inr ⟨by decide, by decide⟩, _, _, rfl, rfl, .inl ⟨_, rfl, _, rfl, _, _, rfl, rfl, n0, ?_⟩⟩⟩
        exact q _ _ (Int.emod_nonneg _ (by omega)) (Int.emod_lt_of_pos _ n0) (g.trans (Go.put ne sc few st rfl hi hv (Int.emod_nonneg _ (by decide)) (Int.lt_trans (Int.emod_lt_of_pos (b := 2147483629) _ (by decide)) (by decide)) (by omega)))
end
end Th
namespace Th
open PySem PySem.Spec PyProof.Rows L2
abbrev s_l_pick : Stmt := topS 25
theorem sc_l_pick : FnScope ["_law_bag_here", "_law_things"] ["_law_bag_here", "_law_things"] (defScope s_l_pick) := ⟨rfl, rfl, rfl, by decide +kernel, rfl, by decide +kernel, by decide +kernel⟩
/-- one of the things of a list -/
def spPick (K : PySem.W.Frag) : Sp := fun vs H Q _ => ∃ (D : DS) (q : Addr) (xs : List V), vs = [.ref D.p, .ref q] ∧ Drw D H ∧ SqL K (hid D.p H) q xs ∧ 0 < xs.length ∧ xs.length ≤ 1000 ∧ ∀ (i : Nat) (v : V) H', xs[i]? = some v → Go D H H' → Q v H'

/-- one of the signs of a text -/
def spPickS : Sp := fun vs H Q _ => ∃ (D : DS) (z : Str), vs = [.ref D.p, .str z] ∧ Drw D H ∧ 0 < z.length ∧ z.length ≤ 1000 ∧ ∀ (c : Nat) H', c ∈ cs z → Go D H H' → Q (.str ⟨#[c]⟩) H'
def spPick2 (K : PySem.W.Frag) : Sp := fun vs H Q E => spPick K vs H Q E ∨ spPickS vs H Q E
section
variable {P : Program} {w : World} {K : PySem.W.Frag} {mg : Str → Option Value} {base : Heap}
theorem has_l_pick (Z : Zs mg) (A : At K mg "_law_pick" s_l_pick ["_law_bag_here", "_law_things"]) (h_l_draw : Has P w K mg base "_law_draw" s_l_draw 1 ["_law_bag_here", "_law_many"] (spDraw)) : Has P w K mg base "_law_pick" s_l_pick 2 ["_law_bag_here", "_law_things"] (spPick2 K) := by
  obtain ⟨f, fd, F, mg1, bd⟩ := A
  obtain ⟨f_l_draw, fd_l_draw, G_l_draw, m_l_draw, k_l_draw, b_l_draw, F_l_draw⟩ := h_l_draw
  refine ⟨f, fd, ?_, mg1, F.kp, bd, F⟩
  refine F.ok sc_l_pick (fun vs H Q E h => ?_) (fun cdv A outer s H vs Q E hr h => ?_)
  · rcases h with h | h
    · obtain ⟨D, p, xs, rfl, _⟩ := h
      rfl
    · obtain ⟨D, z, rfl, _⟩ := h
      rfl
  · rcases h with h | h
    · obtain ⟨D, p, xs, rfl, d, hS, h0, h1, q⟩ := h
      refine ⟨_, (pss_one (ps_ret (pe_ix ix_seq (pv 1) (pe_call G_l_draw (hr.mono (by decide)) (by rfl) m_l_draw k_l_draw b_l_draw .nil pass0 (pa_cons (pv 0) (pa_cons (pe_callB (call_len_seq.or call_len_str) (by rfl) Z.len_ (by decide +kernel) (pa_cons (pv 1) pa_nil)) pa_nil))) (fun _ _ => rfl)))), ?_⟩
      have hA : SqL K H p xs := hid_same.seq hS
      refine ⟨_, rfl, _, rfl, _, rfl, .inl ⟨p, xs, rfl, .inl hA, D, _, rfl, d, by omega, by omega, fun r H' r0 r1 g => ?_⟩⟩
      obtain ⟨v, hv⟩ : ∃ v, xs[r.toNat]? = some v := ⟨_, List.getElem?_eq_getElem (by omega)⟩
      exact .inl ⟨p, xs, r, v, rfl, rfl, hid_same.seq (g.sm.seq hS), atI_of r0 hv, q _ v H' hv g⟩
    · obtain ⟨D, z, rfl, d, h0, h1, q⟩ := h
      refine ⟨_, (pss_one (ps_ret (pe_ix ix_seq (pv 1) (pe_call G_l_draw (hr.mono (by decide)) (by rfl) m_l_draw k_l_draw b_l_draw .nil pass0 (pa_cons (pv 0) (pa_cons (pe_callB (call_len_seq.or call_len_str) (by rfl) Z.len_ (by decide +kernel) (pa_cons (pv 1) pa_nil)) pa_nil))) (fun _ _ => rfl)))), ?_⟩
      refine ⟨_, rfl, _, rfl, _, rfl, .inr ⟨z, rfl, sline (by omega), D, _, rfl, d, by omega, by omega, fun r H' r0 r1 g => ?_⟩⟩
      obtain ⟨c, hc⟩ : ∃ c, (cs z)[r.toNat]? = some c := ⟨_, List.getElem?_eq_getElem (by rw [← cs_len]; omega)⟩
      exact .inr (.inr ⟨z, r, c, rfl, rfl, sline (by omega), atI_of' (xs := cs z) r0 hc, q c H' (List.mem_of_getElem? hc) g⟩)
end
end Th
namespace Th
open PySem PySem.Spec PyProof.Rows L2
abbrev s_l_size : Stmt := topS 28
theorem sc_l_size : FnScope ["_law_bag_here", "_law_most"] ["_law_bag_here", "_law_most"] (defScope s_l_size) := ⟨rfl, rfl, rfl, by decide +kernel, rfl, by decide +kernel, by decide +kernel⟩
/-- a number of finds -/
def spSize : Sp := fun vs H Q _ => ∃ (D : DS) (n : Int), vs = [.ref D.p, .int n] ∧ Drw D H ∧ 4 ≤ n ∧ n ≤ 1000 ∧ ∀ (r : Int) H', 1 ≤ r → r ≤ n → Go D H H' → Q (.int r) H'
section
variable {P : Program} {w : World} {K : PySem.W.Frag} {mg : Str → Option Value} {base : Heap}
theorem has_l_size (Z : Zs mg) (A : At K mg "_law_size" s_l_size ["_law_bag_here", "_law_most"]) (h_l_draw : Has P w K mg base "_law_draw" s_l_draw 1 ["_law_bag_here", "_law_many"] (spDraw)) (h_l_pick : Has P w K mg base "_law_pick" s_l_pick 2 ["_law_bag_here", "_law_things"] (spPick2 K)) : Has P w K mg base "_law_size" s_l_size 3 ["_law_bag_here", "_law_most"] (spSize) := by
  obtain ⟨f, fd, F, mg1, bd⟩ := A
  obtain ⟨f_l_draw, fd_l_draw, G_l_draw, m_l_draw, k_l_draw, b_l_draw, F_l_draw⟩ := h_l_draw
  obtain ⟨f_l_pick, fd_l_pick, G_l_pick, m_l_pick, k_l_pick, b_l_pick, F_l_pick⟩ := h_l_pick
  refine ⟨f, fd, ?_, mg1, F.kp, bd, F⟩
  refine F.ok sc_l_size (fun vs H Q E h => ?_) (fun cdv A outer s H vs Q E hr h => ?_)
  · obtain ⟨D, n, rfl, _⟩ := h
    rfl
  · obtain ⟨D, n, rfl, d, n0, n1, q⟩ := h
    refine ⟨_, (pss_one (ps_ret (pe_ifExp (pt_cmpR op_eq (pe_call G_l_draw (hr.mono (by decide)) (by rfl) m_l_draw k_l_draw b_l_draw .nil pass0 (pa_cons (pv 0) (pa_cons pe_int pa_nil))) pe_int (nomark _)) (pe_op op_add pe_int (pe_call G_l_draw (hr.mono (by decide)) (by rfl) m_l_draw k_l_draw b_l_draw .nil pass0 (pa_cons (pv 0) (pa_cons pe_int pa_nil)))) (pe_op op_sub (pv 1) (pe_call G_l_pick (hr.mono (by decide)) (by rfl) m_l_pick k_l_pick b_l_pick .nil pass0 (pa_cons (pv 0) (pa_cons (pe_lst (pa_cons pe_int (pa_cons pe_int (pa_cons pe_int (pa_cons pe_int (pa_cons pe_int pa_nil)))))) pa_nil))))))), ?_⟩
    refine ⟨_, rfl, D, 8, rfl, d, by decide, by decide, fun b H1 _ _ g1 => ⟨rfl, _, rfl, ite2 (fun _ => ?_) (fun _ => ?_)⟩⟩
    · exact ⟨_, rfl, D, 3, rfl, g1.st, by decide, by decide, fun r H2 r0 r1 g2 => ⟨_, _, rfl, rfl, q _ H2 (by omega) (by omega) (g1.trans g2)⟩⟩
    · refine ⟨_, rfl, _, rfl, by show 5 ≤ sizeLine; decide, fun q1 m1 => ?_⟩
      have s2 := same_new (o := .lst [.int 0, .int 0, .int 1, .int 2, .int 3]) m1
      have g2 := g1.trans (Go.of g1.st s2)
      refine .inl ⟨D, q1, _, rfl, g2.st, sqh (g1.st.ne_new m1) upd_same, by show 0 < 5; decide, by show 5 ≤ 1000; decide, fun i3 w3 H4 hw3 g4 => ?_⟩
      obtain ⟨less, rfl, hl0, hl1⟩ : ∃ n : Int, w3 = .int n ∧ 0 ≤ n ∧ n ≤ 3 := by
        rcases List.mem_cons.mp (List.mem_of_getElem? hw3) with e | m
        · exact ⟨_, e, by omega, by omega⟩
        · rcases List.mem_cons.mp m with e | m
          · exact ⟨_, e, by omega, by omega⟩
          · rcases List.mem_cons.mp m with e | m
            · exact ⟨_, e, by omega, by omega⟩
            · rcases List.mem_cons.mp m with e | m
              · exact ⟨_, e, by omega, by omega⟩
              · exact ⟨_, List.mem_singleton.mp m, by omega, by omega⟩
      exact ⟨_, _, rfl, rfl, q _ H4 (by omega) (by omega) (g2.trans g4)⟩
end
end Th
namespace Th
open PySem PySem.Spec PyProof.Rows L2
abbrev s_l_names : Stmt := topS 27
theorem sc_l_names : FnScope ["_law_bag_here", "_law_many", "_law_letters", "_law_kind", "_law_stem", "_law_k", "_law_first", "_law_stride", "_law_found", "_law_at", "_law_letter"] ["_law_bag_here", "_law_many"] (defScope s_l_names) := ⟨rfl, rfl, rfl, by decide +kernel, rfl, by decide +kernel, by decide +kernel⟩
/-- n names, each once, in a new list -/
def spNames (K : PySem.W.Frag) : Sp := fun vs H Q _ => ∃ (D : DS) (n : Int), vs = [.ref D.p, .int n] ∧ Drw D H ∧ 0 < n ∧ n ≤ 26 ∧ ∀ (r : Addr) (xs : List Str) H', Nms xs → (xs.length : Int) = n → H r = none → H' r = some (.lst (xs.map V.str)) → Go D H H' → Q (.ref r) H'
theorem sig_len : ∀ l : List Nat, ((l.map fun c => (⟨#[c]⟩ : Str)).map cs).flatten = l
  | [] => rfl
  | c :: r => by
    rw [List.map_cons, List.map_cons, List.flatten_cons, sig_len r]
    rfl
theorem sig_sum : ∀ l : List Nat, ((l.map fun c => (⟨#[c]⟩ : Str)).map (·.length)).sum = l.length
  | [] => rfl
  | c :: r => by
    rw [List.map_cons, List.map_cons, List.sum_cons, sig_sum r, List.length_cons]
    show 1 + r.length = r.length + 1
    omega
theorem stride5 {i : Nat} {v : V} (h : [V.int 1, .int 3, .int 5, .int 7, .int 25][i]? = some v) : ∃ b : Nat, b ∈ [1, 3, 5, 7, 25] ∧ b ≤ 25 ∧ v = .int (b : Int) := by
  rcases List.mem_cons.mp (List.mem_of_getElem? h) with e | m
  · exact ⟨1, by decide, by decide, e⟩
  · rcases List.mem_cons.mp m with e | m
    · exact ⟨3, by decide, by decide, e⟩
    · rcases List.mem_cons.mp m with e | m
      · exact ⟨5, by decide, by decide, e⟩
      · rcases List.mem_cons.mp m with e | m
        · exact ⟨7, by decide, by decide, e⟩
        · exact ⟨25, by decide, by decide, List.mem_singleton.mp m⟩
theorem let26 {a b i j : Nat} (ha : a < 26) (hb : b ∈ [1, 3, 5, 7, 25]) (hi : i < 26) (hj : j < 26) (h : (a + b * i) % 26 = (a + b * j) % 26) : i = j := by
  have hb' : b ∈ [1, 3, 5, 7, 9, 11, 25] := (by decide : ∀ b ∈ [1, 3, 5, 7, 25], b ∈ [1, 3, 5, 7, 9, 11, 25]) b hb
  have e : sgE a b i = sgE a b j := by
    unfold sgE
    rw [show i / 26 = 0 by omega, show j / 26 = 0 by omega]
    generalize b * i = m at h ⊢
    generalize b * j = n at h ⊢
    omega
  exact nodup_at (sgE_nodup a ha b hb') (getr (sgE a b) (by omega : i < 40)) (by rw [e]; exact getr (sgE a b) (by omega : j < 40))
/-- a name out of a stem, a place, a sign -/
def nmF (k : Int) (x : Str) (p c : Nat) : List Nat := if k = 0 then (cs x).take p ++ c :: (cs x).drop p else if k = 1 then c :: (cs x).take p else (cs x).take p ++ [c]
theorem nmF_inj {k : Int} {x : Str} {p p' c c' : Nat} (h : k = 0 → p = p') (e : nmF k x p c = nmF k x p' c') : c = c' := by
  unfold nmF at e
  by_cases h0 : k = 0
  · rw [if_pos h0, if_pos h0, h h0] at e
    exact (List.cons.inj (List.append_cancel_left e)).1
  · rw [if_neg h0, if_neg h0] at e
    by_cases h1 : k = 1
    · rw [if_pos h1, if_pos h1] at e
      exact (List.cons.inj e).1
    · rw [if_neg h1, if_neg h1] at e
      exact (List.cons.inj (List.append_inj' e rfl).2).1
theorem nmF_len {k : Int} {x : Str} {p c : Nat} : 1 ≤ (nmF k x p c).length ∧ (nmF k x p c).length ≤ x.length + 1 := by
  have := cs_len x
  unfold nmF
  by_cases h0 : k = 0
  · rw [if_pos h0, List.length_append, List.length_cons, List.length_take, List.length_drop]
    omega
  · rw [if_neg h0]
    by_cases h1 : k = 1
    · rw [if_pos h1, List.length_cons, List.length_take]
      omega
    · rw [if_neg h1, List.length_append, List.length_take]
      show 1 ≤ _ + 1 ∧ _ + 1 ≤ _
      omega
theorem nmF_mem {k : Int} {x : Str} {p c z : Nat} (h : z ∈ nmF k x p c) : z = c ∨ z ∈ cs x := by
  unfold nmF at h
  by_cases h0 : k = 0
  · rw [if_pos h0] at h
    rcases List.mem_append.mp h with m | m
    · exact .inr (List.mem_of_mem_take m)
    · rcases List.mem_cons.mp m with e | m
      · exact .inl e
      · exact .inr (List.mem_of_mem_drop m)
  · rw [if_neg h0] at h
    by_cases h1 : k = 1
    · rw [if_pos h1] at h
      rcases List.mem_cons.mp h with e | m
      · exact .inl e
      · exact .inr (List.mem_of_mem_take m)
    · rw [if_neg h1] at h
      rcases List.mem_append.mp h with m | m
      · exact .inr (List.mem_of_mem_take m)
      · exact .inl (List.mem_singleton.mp m)
/-- the names so far -/
def Fm (k : Int) (x : Str) (p0 a b : Nat) (xs : List Str) : Prop := ∀ (j : Nat) (s : Str), xs[j]? = some s → ∃ p, (k = 0 → p = p0) ∧ cs s = nmF k x p (let_ ((a + b * j) % 26))
theorem Fm.snoc {k : Int} {x : Str} {p0 a b : Nat} {xs : List Str} (h : Fm k x p0 a b xs) {s : Str} {p : Nat} (hp : k = 0 → p = p0) (e : cs s = nmF k x p (let_ ((a + b * xs.length) % 26))) : Fm k x p0 a b (xs ++ [s]) := fun j t ht => by
  by_cases hj : j < xs.length
  · rw [List.getElem?_append_left hj] at ht
    exact h j t ht
  · rw [List.getElem?_append_right (by omega)] at ht
    have z : j - xs.length = 0 := by
      have := lt_of_get ht
      rw [List.length_singleton] at this
      omega
    rw [z] at ht
    cases ht
    have ej : j = xs.length := by omega
    rw [ej]
    exact ⟨p, hp, e⟩
theorem Fm.nms {k : Int} {x : Str} {p0 a b : Nat} {xs : List Str} (h : Fm k x p0 a b xs) (ha : a < 26) (hb : b ∈ [1, 3, 5, 7, 25]) (hl : xs.length ≤ 26) (hx : x.length ≤ 5) (lw : Lw x) : Nms xs := by
  refine ⟨?_, fun s hs => ?_⟩
  · refine List.pairwise_iff_getElem.mpr fun i j hi hj hij e => ?_
    obtain ⟨p, e1, e2⟩ := h i _ (List.getElem?_eq_getElem hi)
    obtain ⟨p', e3, e4⟩ := h j _ (List.getElem?_eq_getElem hj)
    rw [e] at e2
    have c := nmF_inj (fun z => (e1 z).trans (e3 z).symm) (e2.symm.trans e4)
    have z := let_inj (Nat.mod_lt _ (by decide)) (Nat.mod_lt _ (by decide)) c
    have := let26 ha hb (by omega) (by omega) z
    omega
  · obtain ⟨j, hj⟩ := List.getElem?_of_mem hs
    obtain ⟨p, _, e⟩ := h j s hj
    have l := nmF_len (k := k) (x := x) (p := p) (c := let_ ((a + b * j) % 26))
    rw [← e, ← cs_len] at l
    refine isNm_iff.mpr ⟨l.1, by omega, fun c hc => ?_⟩
    rw [e] at hc
    rcases nmF_mem hc with w | m
    · rw [w]
      exact let_mem (Nat.mod_lt _ (by decide))
    · exact lw c m
section
variable {P : Program} {w : World} {K : PySem.W.Frag} {mg : Str → Option Value} {base : Heap}
theorem has_l_names (Z : Zs mg) (A : At K mg "_law_names" s_l_names ["_law_bag_here", "_law_many"]) (h_l_draw : Has P w K mg base "_law_draw" s_l_draw 1 ["_law_bag_here", "_law_many"] (spDraw)) (h_l_pick : Has P w K mg base "_law_pick" s_l_pick 2 ["_law_bag_here", "_law_things"] (spPick2 K)) : Has P w K mg base "_law_names" s_l_names 3 ["_law_bag_here", "_law_many"] (spNames K) := by
  obtain ⟨f, fd, F, mg1, bd⟩ := A
  obtain ⟨f_l_draw, fd_l_draw, G_l_draw, m_l_draw, k_l_draw, b_l_draw, F_l_draw⟩ := h_l_draw
  obtain ⟨f_l_pick, fd_l_pick, G_l_pick, m_l_pick, k_l_pick, b_l_pick, F_l_pick⟩ := h_l_pick
  refine ⟨f, fd, ?_, mg1, F.kp, bd, F⟩
  refine F.ok sc_l_names (fun vs H Q E h => ?_) (fun cdv A outer s H vs Q E hr h => ?_)
  · obtain ⟨D, n, rfl, _⟩ := h
    rfl
  · obtain ⟨D, n, rfl, d, n0, n1, q⟩ := h
    refine ⟨_, (pss_cons (ps_asg (pe_tup (pa_cons pe_str (pa_cons (pe_call G_l_draw (hr.mono (by decide)) (by rfl) m_l_draw k_l_draw b_l_draw .nil pass0 (pa_cons (pv 0) (pa_cons pe_int pa_nil))) pa_nil))) (pg_tup (by rfl) (pgs_cons (pg_name (i := 2) sc_l_names.nd rfl (Or.inr rfl)) (pgs_cons (pg_name (i := 3) sc_l_names.nd rfl (Or.inl rfl)) pgs_nil)))) (pss_cons (ps_set (i := 4) sc_l_names.nd rfl (Or.inl rfl) (pe_join pe_str (pe_lc (own := [("_law_k", 5)]) (g := gName 5) (by rfl) sc_l_names.nd (pi_range1 (by rfl) Z.range_ (pa_cons (pe_call G_l_draw (hr.mono (by decide)) (by rfl) m_l_draw k_l_draw b_l_draw .nil pass0 (pa_cons (pv 0) (pa_cons pe_int pa_nil))) pa_nil)) (blkOk_by (own := [("_law_k", 5)]) (N := ["_law_bag_here", "_law_many", "_law_letters", "_law_kind", "_law_stem", "_law_k", "_law_first", "_law_stride", "_law_found", "_law_at", "_law_letter"]) (sc := defScope s_l_names) (by decide +kernel)) (fun _ _ _ _ _ => pg_name (i := 5) sc_l_names.nd rfl (Or.inl rfl)) (fun _ _ _ _ _ => pts_nil) (fun _ _ _ _ _ => (pe_call G_l_pick (hr.mono (by decide)) (by rfl) m_l_pick k_l_pick b_l_pick .nil pass0 (pa_cons (pv 0) (pa_cons (pv 2) pa_nil))))))) (pss_cons (ps_par (i := 6) (j := 7) (by rfl) sc_l_names.nd rfl rfl (by decide) rfl rfl (pa_cons (pe_call G_l_draw (hr.mono (by decide)) (by rfl) m_l_draw k_l_draw b_l_draw .nil pass0 (pa_cons (pv 0) (pa_cons pe_int pa_nil))) (pa_cons (pe_call G_l_pick (hr.mono (by decide)) (by rfl) m_l_pick k_l_pick b_l_pick .nil pass0 (pa_cons (pv 0) (pa_cons (pe_lst (pa_cons pe_int (pa_cons pe_int (pa_cons pe_int (pa_cons pe_int (pa_cons pe_int pa_nil)))))) pa_nil))) pa_nil)) (by rfl)) (pss_cons (ps_set (i := 8) sc_l_names.nd rfl (Or.inl rfl) (pe_lst pa_nil)) (pss_cons (ps_set (i := 9) sc_l_names.nd rfl (Or.inl rfl) (pe_call G_l_draw (hr.mono (by decide)) (by rfl) m_l_draw k_l_draw b_l_draw .nil pass0 (pa_cons (pv 0) (pa_cons (pe_op op_add (pe_callB call_len_str (by rfl) Z.len_ (by decide +kernel) (pa_cons (pv 4) pa_nil)) pe_int) pa_nil)))) (pss_cons (ps_for PassesOwn.never rfl (pi_range1 (by rfl) Z.range_ (pa_cons (pv 1) pa_nil)) (pg_name (i := 5) sc_l_names.nd rfl (Or.inl rfl)) (pss_cons (ps_set (i := 10) sc_l_names.nd rfl (Or.inl rfl) (pe_ix ix_str (pv 2) (pe_op op_mod (pe_callTy call_int1 (by rfl) Z.int_ (by decide +kernel) (pa_cons (pe_op op_add (pv 6) (pe_op op_mul (pv 7) (pv 5))) pa_nil)) pe_int) (fun _ _ => rfl))) (C8.pss_cut (ps_set (i := 9) sc_l_names.nd rfl (Or.inl rfl) (pe_ifExp (pt_cmpR op_gt (pv 3) pe_int (nomark _)) (pe_call G_l_draw (hr.mono (by decide)) (by rfl) m_l_draw k_l_draw b_l_draw .nil pass0 (pa_cons (pv 0) (pa_cons (pe_op op_add (pe_callB call_len_str (by rfl) Z.len_ (by decide +kernel) (pa_cons (pv 4) pa_nil)) pe_int) pa_nil))) (pv 9))) (pss_one (ps_if (pt_cmpR op_eq (pv 3) pe_int (nomark _)) (pss_one (ps_expr (pe_bm PySem.F.plainAttrs_list PySem.F.slot_list_append PySem.F.type_list_append mt_append (pv 8) (pa_cons (pe_op op_add_str (pe_op op_add_str (pe_slice sl_str (pv 4) po_none (po_some (pv 9))) (pv 10)) (pe_slice sl_str (pv 4) (po_some (pv 9)) po_none)) pa_nil)))) (pss_one (ps_expr (pe_bm PySem.F.plainAttrs_list PySem.F.slot_list_append PySem.F.type_list_append mt_append (pv 8) (pa_cons (pe_ifExp (pt_cmpR op_eq (pv 3) pe_int (nomark _)) (pe_op op_add_str (pv 10) (pe_slice sl_str (pv 4) po_none (po_some (pv 9)))) (pe_op op_add_str (pe_slice sl_str (pv 4) po_none (po_some (pv 9))) (pv 10))) pa_nil))))))))) (pss_one (ps_ret (pv 8))))))))), ?_⟩
    refine ⟨_, rfl, D, 3, rfl, d, by decide, by decide, fun kind H1 k0 k1 g1 => ⟨by show 2 ≤ sizeLine; decide, fun t nt => ⟨t, _, rfl, .inl (.inl upd_same), rfl, _, _, rfl, _, _, rfl, rfl, ?_⟩⟩⟩
    have g2 := g1.new (o := .tup [.str abc, .int kind]) nt
    refine ⟨⟨_, rfl⟩, _, rfl, D, 6, rfl, g2.st, by decide, by decide, fun r H3 r0 r1 g3 => ⟨_, rfl, by omega, by omega, fun L nL => ?_⟩⟩
    have g23 := g2.trans g3
    have nLp := g23.st.ne_new nL
    refine lc_range (lo := 0) (n := r.toNat) (fun i H2 => ∃ l : List Nat, l.length = i ∧ (∀ c ∈ l, c ∈ cs abc) ∧ Go D H H2 ∧ H2 L = some (.lst ((l.map fun c => (⟨#[c]⟩ : Str)).map V.str)))
      ⟨[], rfl, (fun _ z => nomatch z), g23.new nL, upd_same⟩ ?_ ?_
    · rintro i H2 hi ⟨l, hl, hk, g2, e2⟩
      refine ⟨rfl, _, rfl, _, rfl, .inr ⟨D, abc, rfl, g2.st, by decide +kernel, by decide +kernel, fun c H3 hc g3 => ?_⟩⟩
      refine ⟨_, g3.old nLp e2, slineL (by rw [List.length_map, List.length_map]; omega), l ++ [c], by rw [List.length_append, hl]; rfl, fun z hz => ?_, (g2.trans g3).mut d (g23.free d nL), ?_⟩
      · rcases List.mem_append.mp hz with hz | hz
        · exact hk z hz
        · rw [List.mem_singleton.mp hz]; exact hc
      · rw [upd_same, List.map_append, List.map_append]
        rfl
    rintro H4 ⟨l, hl, hk, g4, e4⟩
    refine ⟨_, L, _, rfl, rfl, .inl (.inl (.inl e4)), ?_, ?_⟩
    · rw [sig_sum, List.length_map, show (Str.ofString "").length = 0 from rfl]
      omega
    have ec : cs (Txt.join (Str.ofString "") (l.map fun c => (⟨#[c]⟩ : Str))) = l := by
      unfold Txt.join
      rw [PySem.StrLaws.glued_eq_join]
      exact (cs_join _).trans (sig_len l)
    generalize Txt.join (Str.ofString "") (l.map fun c => (⟨#[c]⟩ : Str)) = x at ec ⊢
    have lx : x.length = l.length := by rw [cs_len, ec]
    have lw : Lw x := fun c hc => hk c (by rw [← ec]; exact hc)
    have lx5 : x.length ≤ 5 := by omega
    clear hk e4 hl
    refine ⟨_, rfl, D, 26, rfl, g4.st, by decide, by decide, fun a H5 a0 a1 g5 => ⟨_, rfl, by show 5 ≤ sizeLine; decide, fun u nu => .inl ?_⟩⟩
    have g6 := (g4.trans g5).new (o := .lst [.int 1, .int 3, .int 5, .int 7, .int 25]) nu
    refine ⟨D, u, _, rfl, g6.st, sqh ((g4.trans g5).st.ne_new nu) upd_same, by show 0 < 5; decide, by show 5 ≤ 1000; decide, fun i v H7 hv g7 => ⟨_, _, rfl, ?_⟩⟩
    obtain ⟨b, hb, hb2, rfl⟩ := stride5 hv
    obtain ⟨a, rfl⟩ := Int.eq_ofNat_of_zero_le a0
    have ha : a < 26 := by omega
    have g8 := g6.trans g7
    refine ⟨Nat.zero_le _, fun R nR => ?_⟩
    have freeR := g8.free d nR
    have nRp := g8.st.ne_new nR
    have g9 := g8.new (o := .lst []) nR
    refine ⟨_, rfl, _, rfl, x, rfl, sline (by omega), _, _, rfl, rfl, D, _, rfl, g9.st, by omega, by omega, fun at0 H10 s0 s1 g10 => ?_⟩
    have gA := g9.trans g10
    have eR0 : H10 R = some (.lst (([] : List Str).map V.str)) := g10.old nRp upd_same
    refine ⟨_, rfl, n, rfl, by omega, by omega, for_range (lo := 0) (n := n.toNat) (fun i σ H' => ∃ (p : Int) (xs : List Str) (y1 y2 : Option V), σ = [some (.ref D.p), some (.int n), some (.str abc), some (.int kind), some (.str x), y1, some (.int a), some (.int b), some (.ref R), some (.int p), y2] ∧ 0 ≤ p ∧ p ≤ x.length ∧ (kind = 0 → p.toNat = at0.toNat) ∧
      Go D H H' ∧ H' R = some (.lst (xs.map V.str)) ∧ xs.length = i ∧ Fm kind x at0.toNat a b xs) ⟨at0, [], _, _, rfl, s0, by omega, fun _ => rfl, gA, eR0, rfl, fun j s h => nomatch h⟩ ?_ ?_⟩
    · rintro i σ H' hi ⟨p, xs, y1, y2, rfl, p0, p1, pk, g, eR, lxs, fm⟩
      have hi' : i < 26 := by omega
      refine ⟨_, rfl, _, rfl, _, rfl, _, rfl, _, _, rfl, rfl, .inl ⟨by omega, by omega⟩, _, _, rfl, rfl, .inl ⟨_, rfl, _, _, rfl, rfl, (by show (0 : Int) < 26; decide), abc, _, let_ ((a + b * i) % 26), rfl, rfl, sline_abc, ?_, ?_⟩⟩
      · have e : ((a : Int) + (b : Int) * ((0 : Int) + (i : Int))) % 26 = (((a + b * i) % 26 : Nat) : Int) := by
          rw [Int.zero_add]
          push_cast
          rfl
        rw [e]
        exact atI_nat (xs := cs abc) (let_at (Nat.mod_lt _ (by decide)))
      refine ⟨fun σ H2 => ∃ (p : Int), σ = [some (.ref D.p), some (.int n), some (.str abc), some (.int kind), some (.str x), some (.int ((0 : Int) + (i : Int))), some (.int a), some (.int b), some (.ref R), some (.int p), some (.str ⟨#[let_ ((a + b * i) % 26)]⟩)] ∧ 0 ≤ p ∧ p ≤ x.length ∧ (kind = 0 → p.toNat = at0.toNat) ∧ Go D H H2 ∧ H2 R = some (.lst (xs.map V.str)), ?_, ?_⟩
      · refine ⟨_, rfl, _, _, rfl, rfl, _, rfl, ite2 (fun hk => ?_) (fun hk => ?_)⟩
        · have hk' : kind > 0 := of_decide_eq_true hk
          refine ⟨_, rfl, _, rfl, x, rfl, sline (by omega), _, _, rfl, rfl, D, _, rfl, g.st, by omega, by omega, fun p' H2 z0 z1 g2 => ⟨p', rfl, z0, by omega, fun z => by omega, g.trans g2, g2.old nRp eR⟩⟩
        · exact ⟨_, rfl, p, rfl, p0, p1, pk, g, eR⟩
      rintro σ H2 ⟨p, rfl, p0, p1, pk, g, eR⟩
      have c1 := cutS_length x none (some p)
      have c2 := cutS_length x (some p) none
      have e1 : cs (cutS x none (some p)) = (cs x).take p.toNat := cs_cut_to x p p0
      have e2 : cs (cutS x (some p) none) = (cs x).drop p.toNat := cs_cut_from x p p0 p1
      have z2 : (⟨#[let_ ((a + b * i) % 26)]⟩ : Str).length = 1 := rfl
      have fin : ∀ (s : Str), cs s = nmF kind x p.toNat (let_ ((a + b * i) % 26)) → ∃ (p' : Int) (xs' : List Str) (y1 y2 : Option V), [some (V.ref D.p), some (.int n), some (.str abc), some (.int kind), some (.str x), some (.int ((0 : Int) + (i : Int))), some (.int a), some (.int b), some (.ref R), some (.int p), some (.str ⟨#[let_ ((a + b * i) % 26)]⟩)] = [some (V.ref D.p), some (.int n), some (.str abc), some (.int kind), some (.str x), y1, some (.int a), some (.int b), some (.ref R), some (.int p'), y2] ∧ 0 ≤ p' ∧ p' ≤ x.length ∧ (kind = 0 → p'.toNat = at0.toNat) ∧
          Go D H (upd H2 R (.lst (xs.map V.str ++ [V.str s]))) ∧ (upd H2 R (.lst (xs.map V.str ++ [V.str s]))) R = some (.lst (xs'.map V.str)) ∧ xs'.length = i + 1 ∧ Fm kind x at0.toNat a b xs' := fun s e =>
        ⟨p, xs ++ [s], _, _, rfl, p0, p1, pk, g.mut d freeR, by rw [upd_same, List.map_append]; rfl, by rw [List.length_append, lxs]; rfl, fm.snoc pk (by rw [lxs]; exact e)⟩
      have tR : (("list" : String) = "list" ∧ ∃ xs, SqL K H2 R xs) := ⟨rfl, _, .inl (.inl eR)⟩
      have few : (xs.map V.str).length < sizeLine := slineL (by rw [List.length_map]; omega)
      refine ⟨_, rfl, rfl, _, rfl, ite2 (fun hk => ?_) (fun hk => ?_)⟩
      · have hk' : kind = 0 := V.int.inj (of_decide_eq_true hk)
        refine ⟨_, rfl, .inl tR, _, rfl, _, rfl, p, rfl, x, rfl, sline (by omega), _, rfl, _, _, rfl, rfl, sline (by rw [z2]; omega), _, rfl, _, rfl, p, rfl, x, rfl, sline (by omega), _, _, rfl, rfl, sline ?_, R, _, _, rfl, rfl, eR, few, ?_⟩
        · have z3 : (cutS x none (some p) ++ (⟨#[let_ ((a + b * i) % 26)]⟩ : Str)).length = (cutS x none (some p)).length + 1 := Array.size_append
          omega
        · exact fin _ (by rw [cs_app, cs_app, e1, e2]; unfold nmF; rw [if_pos hk', List.append_assoc]; rfl)
      · have hk' : ¬ kind = 0 := fun z => hk (decide_eq_true (by rw [z]))
        refine ⟨_, rfl, .inl tR, _, rfl, rfl, _, rfl, ite2 (fun h1 => ?_) (fun h1 => ?_)⟩
        · have h1' : kind = 1 := V.int.inj (of_decide_eq_true h1)
          refine ⟨_, rfl, _, rfl, _, rfl, p, rfl, x, rfl, sline (by omega), _, _, rfl, rfl, sline (by rw [z2]; omega), R, _, _, rfl, rfl, eR, few, ?_⟩
          exact fin _ (by rw [cs_app, e1]; unfold nmF; rw [if_neg hk', if_pos h1']; rfl)
        · have h1' : ¬ kind = 1 := fun z => h1 (decide_eq_true (by rw [z]))
          refine ⟨_, rfl, _, rfl, p, rfl, x, rfl, sline (by omega), _, rfl, _, _, rfl, rfl, sline (by rw [z2]; omega), R, _, _, rfl, rfl, eR, few, ?_⟩
          exact fin _ (by rw [cs_app, e1]; unfold nmF; rw [if_neg hk', if_neg h1']; rfl)
    · rintro σ H' ⟨p, xs, y1, y2, rfl, p0, p1, pk, g, eR, lxs, fm⟩
      exact ⟨_, rfl, q R xs H' (fm.nms ha hb (by omega) lx5 lw) (by omega) freeR eR g⟩
end
end Th
namespace Th
open PySem PySem.Spec PyProof.Rows L2
abbrev s_l_mixed : Stmt := topS 26
theorem sc_l_mixed : FnScope ["_law_bag_here", "_law_things", "_law_found", "_law_thing"] ["_law_bag_here", "_law_things"] (defScope s_l_mixed) := ⟨rfl, rfl, rfl, by decide +kernel, rfl, by decide +kernel, by decide +kernel⟩
/-- the things of a list in any order, in a new list -/
def spShuffle (K : PySem.W.Frag) : Sp := fun vs H Q _ => ∃ (D : DS) (q : Addr) (xs : List V), vs = [.ref D.p, .ref q] ∧ Drw D H ∧ SqL K (hid D.p H) q xs ∧ xs.length ≤ 1000 ∧
  ∀ (r : Addr) (ys : List V) H', ys.Perm xs → H r = none → H' r = some (.lst ys) → Go D H H' → Q (.ref r) H'
theorem ins_perm (ys : List V) (i : Nat) (v : V) : (ys.take i ++ [v] ++ ys.drop i).Perm (ys ++ [v]) := by
  have a : (ys.take i ++ [v] ++ ys.drop i).Perm (v :: (ys.take i ++ ys.drop i)) := by
    rw [List.append_assoc]
    exact List.perm_middle
  rw [List.take_append_drop] at a
  exact a.trans (List.perm_append_singleton _ _).symm
section
variable {P : Program} {w : World} {K : PySem.W.Frag} {mg : Str → Option Value} {base : Heap}
theorem has_l_mixed (Z : Zs mg) (A : At K mg "_law_mixed" s_l_mixed ["_law_bag_here", "_law_things"]) (h_l_draw : Has P w K mg base "_law_draw" s_l_draw 1 ["_law_bag_here", "_law_many"] (spDraw)) : Has P w K mg base "_law_mixed" s_l_mixed 2 ["_law_bag_here", "_law_things"] (spShuffle K) := by
  obtain ⟨f, fd, F, mg1, bd⟩ := A
  obtain ⟨f_l_draw, fd_l_draw, G_l_draw, m_l_draw, k_l_draw, b_l_draw, F_l_draw⟩ := h_l_draw
  refine ⟨f, fd, ?_, mg1, F.kp, bd, F⟩
  refine F.ok sc_l_mixed (fun vs H Q E h => ?_) (fun cdv A outer s H vs Q E hr h => ?_)
  · obtain ⟨D, p, xs, rfl, _⟩ := h
    rfl
  · obtain ⟨D, p, xs, rfl, d, hS, h1, q⟩ := h
    refine ⟨_, (pss_cons (ps_set (i := 2) sc_l_mixed.nd rfl (Or.inl rfl) (pe_lst pa_nil)) (pss_cons (ps_for PassesOwn.never rfl (pi_list (pv 1)) (pg_name (i := 3) sc_l_mixed.nd rfl (Or.inl rfl)) (pss_one (ps_expr (pe_bm PySem.F.plainAttrs_list PySem.F.slot_list_insert PySem.F.type_list_insert mt_insert (pv 2) (pa_cons (pe_call G_l_draw (hr.mono (by decide)) (by rfl) m_l_draw k_l_draw b_l_draw .nil pass0 (pa_cons (pv 0) (pa_cons (pe_op op_add (pe_callB call_len_seq (by rfl) Z.len_ (by decide +kernel) (pa_cons (pv 2) pa_nil)) pe_int) pa_nil))) (pa_cons (pv 3) pa_nil)))))) (pss_one (ps_ret (pv 2))))), ?_⟩
    refine ⟨Nat.zero_le _, fun r nr => ?_⟩
    have nrp := d.ne_new nr
    refine ⟨_, rfl, p, rfl, ⟨xs, (same_new nr).seq (hid_same.seq hS)⟩, for_list (K := K) (a := p) (xs := xs) (fun i σ H2 => ∃ (y : Option V) (ys : List V), σ = [some (.ref D.p), some (.ref p), some (.ref r), y] ∧ Go D H H2 ∧ H2 r = some (.lst ys) ∧ ys.Perm (xs.take i))
      ⟨none, [], rfl, (Go.refl d).new nr, upd_same, List.Perm.nil⟩ (fun i σ H2 _ ⟨_, _, _, g, _⟩ => hid_same.seq (g.sm.seq hS)) ?_ ?_⟩
    · rintro i v σ H2 hi ⟨y, ys, rfl, g, er, pm⟩
      have hil := lt_of_get hi
      have hlen : ys.length = i := by rw [pm.length_eq, List.length_take]; omega
      refine ⟨_, rfl, .inl ⟨rfl, _, .inl (.inl er)⟩, _, rfl, _, rfl, r, ys, rfl, .inl (.inl (.inl er)), _, _, rfl, rfl, D, _, rfl, g.st, by omega, by omega, fun k H3 k0 k1 g3 => ?_⟩
      refine ⟨_, rfl, r, ys, k, v, rfl, rfl, g3.old nrp er, slineL (by omega), k0, by omega, ?_⟩
      refine ⟨_, _, rfl, (g.trans g3).mut d nr, upd_same, (ins_perm ys k.toNat v).trans ?_⟩
      rw [List.take_add_one, hi]
      exact pm.append_right [v]
    · rintro σ H2 ⟨y, ys, rfl, g, er, pm⟩
      rw [List.take_length] at pm
      exact ⟨_, rfl, q r ys H2 pm nr er g⟩
end
end Th
namespace Th
open PySem PySem.Spec PyProof.Rows L2
abbrev s_l_order : Stmt := topS 32
theorem sc_l_order : FnScope ["_law_names_here", "_law_order_here", "_law_k"] ["_law_names_here", "_law_order_here"] (defScope s_l_order) := ⟨rfl, rfl, rfl, by decide +kernel, rfl, by decide +kernel, by decide +kernel⟩
/-- names by their numbers, in a new tuple -/
def spOrderOf (K : PySem.W.Frag) : Sp := fun vs H Q _ => ∃ (a b : Addr) (xs : List V) (ks : List Nat) (zs : List V), vs = [.ref a, .ref b] ∧ SqL K H a xs ∧ SqL K H b (ks.map fun k => V.int (k : Nat)) ∧ ks.length ≤ 100 ∧ zs.length = ks.length ∧ (∀ (i k : Nat) (z : V), ks[i]? = some k → zs[i]? = some z → xs[k]? = some z) ∧
  ∀ r H', Same H H' → H r = none → BareT H' r zs → Q (.ref r) H'
section
variable {P : Program} {w : World} {K : PySem.W.Frag} {mg : Str → Option Value} {base : Heap}
theorem has_l_order (Z : Zs mg) (A : At K mg "_law_order" s_l_order ["_law_names_here", "_law_order_here"]) : Has P w K mg base "_law_order" s_l_order 1 ["_law_names_here", "_law_order_here"] (spOrderOf K) := by
  obtain ⟨f, fd, F, mg1, bd⟩ := A
  refine ⟨f, fd, ?_, mg1, F.kp, bd, F⟩
  refine F.ok sc_l_order (fun vs H Q E h => ?_) (fun cdv A outer s H vs Q E hr h => ?_)
  · obtain ⟨a, b, xs, ks, zs, rfl, _⟩ := h
    rfl
  · obtain ⟨a, b, xs, ks, zs, rfl, ha, hb, hl, lz, hz, q⟩ := h
    refine ⟨_, (pss_one (ps_ret (pe_callTy call_tuple_bare (by rfl) Z.tuple_ (by decide +kernel) (pa_cons (pe_lc (own := [("_law_k", 2)]) (g := gName 2) (by rfl) sc_l_order.nd (pi_list (pv 1)) (blkOk_by (own := [("_law_k", 2)]) (N := ["_law_names_here", "_law_order_here", "_law_k"]) (sc := defScope s_l_order) (by decide +kernel)) (fun _ _ _ _ _ => pg_name (i := 2) sc_l_order.nd rfl (Or.inl rfl)) (fun _ _ _ _ _ => pts_nil) (fun _ _ _ _ _ => (pe_ix (show IxR _ (rIxL K) from ix_list) (pv 0) (pv 2) (fun _ _ => rfl)))) pa_nil)))), ?_⟩
    refine ⟨_, rfl, b, rfl, ⟨_, hb⟩, fun L nL => ?_⟩
    have lk : (ks.map fun k => V.int (k : Nat)).length = ks.length := List.length_map _
    refine lc_list (K := K) (a := b) (xs := ks.map fun k => V.int (k : Nat)) (fun i H2 => Same H H2 ∧ H2 L = some (.lst (zs.take i))) ⟨same_new nL, upd_same⟩ (fun i H2 _ z => z.1.seq hb) ?_ ?_
    · rintro i y H2 hi ⟨s2, e2⟩
      have hil := lt_of_get hi
      rw [lk] at hil
      obtain ⟨k, hk⟩ : ∃ k, ks[i]? = some k := ⟨_, List.getElem?_eq_getElem hil⟩
      obtain ⟨z, hzi⟩ : ∃ z, zs[i]? = some z := ⟨_, List.getElem?_eq_getElem (by omega)⟩
      rw [List.getElem?_map, hk] at hi
      have ey : V.int (k : Nat) = y := Option.some.inj hi
      subst ey
      refine ⟨rfl, _, rfl, _, rfl, a, xs, _, z, rfl, rfl, s2.seq ha, atI_of (by omega) (by rw [Int.toNat_natCast]; exact hz i k z hk hzi), _, e2, slineL (by rw [List.length_take]; omega), same_mut s2 nL, ?_⟩
      rw [upd_same, List.take_add_one, hzi]
      rfl
    · rintro H2 ⟨s2, e2⟩
      rw [lk, ← lz, List.take_length] at e2
      refine ⟨L, _, rfl, .inl (.inl e2), fun r o nr od => ?_⟩
      exact q r _ (s2.trans (same_new nr)) (s2.free nr) ⟨o, upd_same, od⟩
end
end Th
namespace Th
open PySem PySem.Spec PyProof.Rows L2
abbrev s_l_lex : Stmt := topS 30
theorem sc_l_lex : FnScope ["_law_many", "_law_found", "_law_k", "_law_bit", "_law_bits"] ["_law_many"] (defScope s_l_lex) := ⟨rfl, rfl, rfl, by decide +kernel, rfl, by decide +kernel, by decide +kernel⟩
/-- bits of lots -/
def spLex : Sp := fun vs H Q _ => ∃ (n : Nat), vs = [.int (n : Int)] ∧ n ≤ 6 ∧ ∀ r (bs : List Nat) H', (∀ b ∈ bs, 0 < b ∧ b < 2 ^ n) → bs.length ≤ 63 → Same H H' → H r = none → H' r = some (.lst (bs.map fun b => V.int (b : Nat))) → Q (.ref r) H'
theorem or_two {a b n : Nat} (h : a < 2 ^ n) (k : b < 2 ^ n) : a ||| b < 2 ^ n := Nat.or_lt_two_pow h k
theorem or_pos {a b : Nat} (h : 0 < a) : 0 < a ||| b := Nat.lt_of_lt_of_le h Nat.left_le_or
theorem or_int (a b : Nat) : Builtin.bitOr (a : Int) (b : Int) = ((a ||| b : Nat) : Int) := by
  rw [Bits.bitOr_pp (Int.natCast_nonneg a) (Int.natCast_nonneg b), Int.toNat_natCast, Int.toNat_natCast]
section
variable {P : Program} {w : World} {K : PySem.W.Frag} {mg : Str → Option Value} {base : Heap}
theorem has_l_lex (Z : Zs mg) (A : At K mg "_law_lex" s_l_lex ["_law_many"]) : Has P w K mg base "_law_lex" s_l_lex 1 ["_law_many"] (spLex) := by
  obtain ⟨f, fd, F, mg1, bd⟩ := A
  refine ⟨f, fd, ?_, mg1, F.kp, bd, F⟩
  refine F.ok sc_l_lex (fun vs H Q E h => ?_) (fun cdv A outer s H vs Q E hr h => ?_)
  · obtain ⟨n, rfl, _⟩ := h
    rfl
  · obtain ⟨n, rfl, n6, q⟩ := h
    refine ⟨_, (pss_cons (ps_set (i := 1) sc_l_lex.nd rfl (Or.inl rfl) (pe_lst pa_nil)) (pss_cons (ps_for PassesOwn.never rfl (pi_range1 (by rfl) Z.range_ (pa_cons (pv 0) pa_nil)) (pg_name (i := 2) sc_l_lex.nd rfl (Or.inl rfl)) (pss_cons (ps_set (i := 3) sc_l_lex.nd rfl (Or.inr rfl) (pe_op op_oneShl pe_int (pe_op op_sub (pe_op op_sub (pv 0) pe_int) (pv 2)))) (pss_one (ps_set (i := 1) sc_l_lex.nd rfl (Or.inl rfl) (pe_op op_cat (pe_op op_cat (pe_lst (pa_cons (pv 3) pa_nil)) (pe_lc (own := [("_law_bits", 4)]) (g := gName 4) (by rfl) sc_l_lex.nd (pi_list (pv 1)) (blkOk_by (own := [("_law_bits", 4)]) (N := ["_law_many", "_law_found", "_law_k", "_law_bit", "_law_bits"]) (sc := defScope s_l_lex) (by decide +kernel)) (fun _ _ _ _ _ => pg_name (i := 4) sc_l_lex.nd rfl (Or.inl rfl)) (fun _ _ _ _ _ => pts_nil) (fun _ _ _ _ _ => (pe_op op_or (pv 3) (pv 4))))) (pv 1)))))) (pss_one (ps_ret (pv 1))))), ?_⟩
    refine ⟨Nat.zero_le _, fun R0 nR0 => ?_⟩
    refine ⟨_, rfl, n, rfl, by omega, by omega, for_range (lo := 0) (n := n) (fun i σ H2 => ∃ (R : Addr) (bs : List Nat) (y1 y2 y3 : Option V), σ = [some (.int n), some (.ref R), y1, y2, y3] ∧ Same H H2 ∧ H R = none ∧ H2 R = some (.lst (bs.map fun b => V.int (b : Nat))) ∧ bs.length + 1 = 2 ^ i ∧ ∀ b ∈ bs, 0 < b ∧ b < 2 ^ n)
      ⟨R0, [], _, _, _, rfl, same_new nR0, nR0, upd_same, rfl, fun _ z => nomatch z⟩ ?_ ?_⟩
    · rintro i σ H2 hi ⟨R, bs, y1, y2, y3, rfl, s2, nR, e2, lb, hb⟩
      have l64 : 2 ^ i ≤ 2 ^ 5 := Nat.pow_le_pow_right (by decide) (by omega)
      have lbs : (bs.map fun b => V.int (b : Nat)).length = bs.length := List.length_map _
      refine ⟨_, rfl, _, _, rfl, rfl, _, rfl, _, _, rfl, rfl, n - 1 - i, rfl, congrArg V.int (by omega), by omega, ?_⟩
      have bit : (2 : Int) ^ (n - 1 - i) = ((2 ^ (n - 1 - i) : Nat) : Int) := by rw [Int.natCast_pow]; rfl
      rw [bit]
      have bpos : 0 < 2 ^ (n - 1 - i) := Nat.pow_pos (by decide)
      have blt : 2 ^ (n - 1 - i) < 2 ^ n := Nat.pow_lt_pow_right (by decide) (by omega)
      generalize 2 ^ (n - 1 - i) = t at bpos blt ⊢
      refine ⟨_, rfl, by show 1 ≤ sizeLine; decide, fun A nA => ?_⟩
      have eR3 := kp (u := .lst [V.int (t : Nat)]) e2 nA
      have s3 := s2.trans (same_new (o := .lst [V.int (t : Nat)]) nA)
      have eA : (upd H2 A (.lst [V.int (t : Nat)])) A = some (.lst [V.int (t : Nat)]) := upd_same
      generalize upd H2 A (.lst [V.int (t : Nat)]) = H3 at s3 eR3 eA ⊢
      refine ⟨_, rfl, R, rfl, ⟨_, .inl (.inl eR3)⟩, fun B nB => ?_⟩
      refine lc_list (K := K) (a := R) (xs := bs.map fun b => V.int (b : Nat)) (fun j H4 => Same H3 H4 ∧ H4 B = some (.lst (((bs.map fun b => t ||| b).take j).map fun b => V.int (b : Nat)))) ⟨same_new nB, upd_same⟩ (fun j H4 _ z => .inl (.inl (z.1 _ _ eR3))) ?_ ?_
      · rintro j y H4 hj ⟨s4, e4⟩
        obtain ⟨b, hbj, rfl⟩ := getmap hj
        have hlt := lt_of_get hbj
        refine ⟨rfl, _, rfl, _, rfl, _, _, rfl, rfl, _, e4, slineL (by rw [List.length_map, List.length_take, List.length_map]; omega), same_mut s4 nB, ?_⟩
        rw [upd_same]
        show some (HO.lst (_ ++ [V.int (Builtin.bitOr (t : Int) (b : Int))])) = _
        rw [or_int, take_succ_map (f := fun b => V.int (b : Nat)) (x := t ||| b) (by rw [List.getElem?_map, hbj]; rfl)]
      rintro H4 ⟨s4, e4⟩
      rw [lbs, List.take_of_length_le (by rw [List.length_map]; omega)] at e4
      refine ⟨A, B, _, _, rfl, rfl, s4 _ _ eA, e4, sline (by rw [List.length_map, List.length_map]; show 1 + bs.length ≤ 100000; omega), fun C nC => ?_⟩
      have s5 := same_new (o := .lst ([V.int (t : Nat)] ++ (bs.map fun b => t ||| b).map fun b => V.int (b : Nat))) nC
      refine ⟨_, rfl, C, R, _, _, rfl, rfl, upd_same, s5 _ _ (s4 _ _ eR3), sline (by rw [List.length_append, List.length_map, List.length_map, lbs]; show 1 + bs.length + bs.length ≤ 100000; omega), fun F nF => ?_⟩
      refine ⟨F, [t] ++ (bs.map fun b => t ||| b) ++ bs, _, _, _, rfl, ((s3.trans s4).trans s5).trans (same_new nF), ((s3.trans s4).trans s5).free nF, by rw [upd_same, List.map_append, List.map_append]; rfl, ?_, fun b hbm => ?_⟩
      · rw [List.length_append, List.length_append, List.length_map, Nat.pow_succ]
        show 1 + bs.length + bs.length + 1 = _
        omega
      · rcases List.mem_append.mp hbm with m | m
        · rcases List.mem_append.mp m with m | m
          · rw [List.mem_singleton.mp m]
            exact ⟨bpos, blt⟩
          · obtain ⟨c, hc, rfl⟩ := List.mem_map.mp m
            exact ⟨or_pos bpos, or_two blt (hb c hc).2⟩
        · exact hb b m
    · rintro σ H2 ⟨R, bs, y1, y2, y3, rfl, s2, nR, e2, lb, hb⟩
      have l64 : 2 ^ n ≤ 2 ^ 6 := Nat.pow_le_pow_right (by decide) n6
      exact ⟨_, rfl, q R bs H2 hb (by omega) s2 nR e2⟩
end
end Th
namespace Th
open PySem PySem.Spec PyProof.Rows L2
abbrev s_l_arcs : Stmt := topS 37
theorem sc_l_arcs : FnScope ["_law_order_here", "_law_found", "_law_at", "_law_bits", "_law_k"] ["_law_order_here"] (defScope s_l_arcs) := ⟨rfl, rfl, rfl, by decide +kernel, rfl, by decide +kernel, by decide +kernel⟩
def rotL (ks : List Nat) (a : Nat) : List Nat := ks.drop a ++ ks.take a
def orAll (l : List Nat) : Nat := l.foldl (fun s k => s ||| 2 ^ k) 0
theorem orAll_snoc (l : List Nat) (k : Nat) : orAll (l ++ [k]) = orAll l ||| 2 ^ k := by
  unfold orAll
  rw [List.foldl_append]
  rfl
theorem orAll_lt {m : Nat} : ∀ l : List Nat, (∀ k ∈ l, k < m) → ∀ s, s < 2 ^ m → l.foldl (fun s k => s ||| 2 ^ k) s < 2 ^ m
  | [], _, s, hs => hs
  | k :: r, h, s, hs => orAll_lt r (fun x hx => h x (List.mem_cons_of_mem _ hx)) _ (or_two hs (Nat.pow_lt_pow_right (by decide) (h k List.mem_cons_self)))
/-- the bits of all stretches of a ring, as bits of a number -/
def spArcs (K : PySem.W.Frag) : Sp := fun vs H Q _ => ∃ (a : Addr) (ks : List Nat), vs = [.ref a] ∧ SqL K H a (ks.map fun k => V.int (k : Nat)) ∧ (∀ k ∈ ks, k < 12) ∧ ks.length ≤ 12 ∧
  ∀ (N : Nat) H', (∀ b, N.testBit b = true ↔ ∃ a j, a < ks.length ∧ j < ks.length ∧ b = orAll ((rotL ks a).take (j + 1))) → Same H H' → Q (.int (N : Int)) H'
theorem cut_fromL (xs : List V) {i : Nat} (h : i ≤ xs.length) : cutV xs (some (i : Int)) none = xs.drop i := by
  unfold cutV
  rw [HT.sIx_none, HT.sIx_nat, Nat.min_eq_left h]
  refine List.take_of_length_le ?_
  rw [List.length_drop]
  omega
theorem or_V (a k : Nat) : V.int (Builtin.bitOr (a : Int) ((2 : Int) ^ k)) = V.int ((a ||| 2 ^ k : Nat) : Int) := by
  rw [show (2 : Int) ^ k = ((2 ^ k : Nat) : Int) by rw [Int.natCast_pow]; rfl, or_int]
theorem test_two (N b c : Nat) : (N ||| 2 ^ b).testBit c = (N.testBit c || decide (b = c)) := by
  rw [Nat.testBit_or, Nat.testBit_two_pow]
theorem rotL_len (ks : List Nat) {a : Nat} (h : a ≤ ks.length) : (rotL ks a).length = ks.length := by
  unfold rotL
  rw [List.length_append, List.length_drop, List.length_take]
  omega
theorem rotL_mem {ks : List Nat} {a k : Nat} (h : k ∈ rotL ks a) : k ∈ ks := by
  rcases List.mem_append.mp h with m | m
  · exact List.mem_of_mem_drop m
  · exact List.mem_of_mem_take m
section
variable {P : Program} {w : World} {K : PySem.W.Frag} {mg : Str → Option Value} {base : Heap}
theorem has_l_arcs (Z : Zs mg) (A : At K mg "_law_arcs" s_l_arcs ["_law_order_here"]) : Has P w K mg base "_law_arcs" s_l_arcs 1 ["_law_order_here"] (spArcs K) := by
  obtain ⟨f, fd, F, mg1, bd⟩ := A
  refine ⟨f, fd, ?_, mg1, F.kp, bd, F⟩
  refine F.ok sc_l_arcs (fun vs H Q E h => ?_) (fun cdv A outer s H vs Q E hr h => ?_)
  · obtain ⟨a, ks, rfl, _⟩ := h
    rfl
  · obtain ⟨a, ks, rfl, ha, hk, hl, q⟩ := h
    refine ⟨_, (pss_cons (ps_set (i := 1) sc_l_arcs.nd rfl (Or.inl rfl) pe_int) (pss_cons (ps_for PassesOwn.never rfl (pi_range1 (by rfl) Z.range_ (pa_cons (pe_callB call_len_seq (by rfl) Z.len_ (by decide +kernel) (pa_cons (pv 0) pa_nil)) pa_nil)) (pg_name (i := 2) sc_l_arcs.nd rfl (Or.inl rfl)) (pss_cons (ps_set (i := 3) sc_l_arcs.nd rfl (Or.inl rfl) pe_int) (pss_one (ps_for PassesOwn.never rfl (pi_list (pe_op op_cat (pe_slice sl_list (pv 0) (po_some (pv 2)) po_none) (pe_slice sl_list (pv 0) po_none (po_some (pv 2))))) (pg_name (i := 4) sc_l_arcs.nd rfl (Or.inl rfl)) (pss_cons (ps_set (i := 3) sc_l_arcs.nd rfl (Or.inl rfl) (pe_op op_or (pv 3) (pe_op op_oneShl pe_int (pv 4)))) (pss_one (ps_set (i := 1) sc_l_arcs.nd rfl (Or.inl rfl) (pe_op op_or (pv 1) (pe_op op_oneShl pe_int (pv 3)))))))))) (pss_one (ps_ret (pv 1))))), ?_⟩
    have lm : (ks.map fun k => V.int (k : Nat)).length = ks.length := List.length_map _
    refine ⟨_, rfl, a, _, rfl, .inl ha, _, rfl, by omega, by omega, ?_⟩
    rw [show (((ks.map fun k => V.int (k : Nat)).length : Nat) : Int).toNat = ks.length by omega]
    refine for_range (lo := 0) (n := ks.length) (fun i σ H2 => ∃ (N : Nat) (y1 y2 y3 : Option V), σ = [some (.ref a), some (.int (N : Int)), y1, y2, y3] ∧ Same H H2 ∧ ∀ b, N.testBit b = true ↔ ∃ a j, a < i ∧ j < ks.length ∧ b = orAll ((rotL ks a).take (j + 1)))
      ⟨0, _, _, _, rfl, Same.refl H, fun b => by rw [Nat.zero_testBit]; exact ⟨fun z => (nomatch z), fun ⟨a, j, z, _⟩ => absurd z (Nat.not_lt_zero a)⟩⟩ ?_ ?_
    · rintro i σ H2 hi ⟨N, y1, y2, y3, rfl, s2, hN⟩
      have ha2 := s2.seq ha
      refine ⟨_, rfl, _, rfl, i, congrArg V.int (Int.zero_add _), a, _, rfl, ha2, fun A nA => ?_⟩
      have s3 := s2.trans (same_new (o := .lst (cutV (ks.map fun k => V.int (k : Nat)) (some (i : Int)) none)) nA)
      have eA : (upd H2 A (.lst (cutV (ks.map fun k => V.int (k : Nat)) (some (i : Int)) none))) A = some (.lst ((ks.drop i).map fun k => V.int (k : Nat))) := by rw [upd_same, cut_fromL _ (by omega), List.map_drop]
      generalize upd H2 A (.lst (cutV (ks.map fun k => V.int (k : Nat)) (some (i : Int)) none)) = H3 at s3 eA ⊢
      refine ⟨_, rfl, _, rfl, i, congrArg V.int (Int.zero_add _), a, _, rfl, s3.seq ha, fun B nB => ?_⟩
      have s4 := s3.trans (same_new (o := .lst (cutV (ks.map fun k => V.int (k : Nat)) none (some (i : Int)))) nB)
      have eB : (upd H3 B (.lst (cutV (ks.map fun k => V.int (k : Nat)) none (some (i : Int))))) B = some (.lst ((ks.take i).map fun k => V.int (k : Nat))) := by rw [upd_same, cut_to _ (Int.natCast_nonneg i), Int.toNat_natCast, List.map_take]
      have eA4 := kp (u := .lst (cutV (ks.map fun k => V.int (k : Nat)) none (some (i : Int)))) eA nB
      generalize upd H3 B (.lst (cutV (ks.map fun k => V.int (k : Nat)) none (some (i : Int)))) = H4 at s4 eB eA4 ⊢
      refine ⟨A, B, _, _, rfl, rfl, eA4, eB, sline (by rw [List.length_map, List.length_map, List.length_drop, List.length_take]; omega), fun R nR => ?_⟩
      rw [← List.map_append]
      have s5 := s4.trans (same_new (o := .lst ((rotL ks i).map fun k => V.int (k : Nat))) nR)
      have eR : (upd H4 R (.lst ((rotL ks i).map fun k => V.int (k : Nat)))) R = some (.lst ((rotL ks i).map fun k => V.int (k : Nat))) := upd_same
      have lr := rotL_len ks (Nat.le_of_lt hi)
      have lrm : ((rotL ks i).map fun k => V.int (k : Nat)).length = ks.length := by rw [List.length_map, lr]
      refine ⟨R, rfl, ⟨_, .inl (.inl eR)⟩, for_list (K := K) (a := R) (xs := (rotL ks i).map fun k => V.int (k : Nat)) (fun j σ H5 => ∃ (M : Nat) (y : Option V), σ = [some (.ref a), some (.int (M : Int)), some (.int ((0 : Int) + (i : Int))), some (.int ((orAll ((rotL ks i).take j) : Nat) : Int)), y] ∧ Same H H5 ∧ H5 R = some (.lst ((rotL ks i).map fun k => V.int (k : Nat))) ∧ ∀ b, M.testBit b = true ↔ (N.testBit b = true ∨ ∃ j', j' < j ∧ b = orAll ((rotL ks i).take (j' + 1))))
        ⟨N, _, rfl, s5, eR, fun b => ⟨.inl, fun z => z.elim id fun ⟨j', w, _⟩ => absurd w (Nat.not_lt_zero j')⟩⟩ (fun j σ H5 _ ⟨_, _, _, _, e, _⟩ => .inl (.inl e)) ?_ ?_⟩
      · rintro j y σ H5 hj ⟨M, y', rfl, s6, e6, hM⟩
        obtain ⟨k, hkj, rfl⟩ := getmap hj
        have hk12 := hk k (rotL_mem (List.mem_of_getElem? hkj))
        have et : (rotL ks i).take (j + 1) = (rotL ks i).take j ++ [k] := by rw [List.take_add_one, hkj]; rfl
        have eo : orAll ((rotL ks i).take (j + 1)) = orAll ((rotL ks i).take j) ||| 2 ^ k := by rw [et, orAll_snoc]
        have lo : orAll ((rotL ks i).take (j + 1)) < 2 ^ 12 := orAll_lt (m := 12) _ (fun x hx => hk x (rotL_mem (List.mem_of_mem_take hx))) 0 (by decide)
        refine ⟨_, rfl, _, rfl, k, rfl, rfl, by omega, _, _, rfl, rfl, _, rfl, _, rfl, orAll ((rotL ks i).take (j + 1)), rfl, ?_, by omega, _, _, rfl, rfl, M ||| 2 ^ orAll ((rotL ks i).take (j + 1)), some (.int (k : Int)), ?_, s6, e6, fun b => ?_⟩
        · rw [eo]
          exact or_V _ k
        · show [some (V.ref a), some (V.int (Builtin.bitOr (M : Int) (2 ^ orAll ((rotL ks i).take (j + 1))))), some (V.int ((0 : Int) + (i : Int))), some (V.int (Builtin.bitOr (orAll ((rotL ks i).take j) : Nat) (2 ^ k))), some (V.int (k : Nat))] = _
          rw [or_V, or_V, ← eo]
        · rw [test_two, Bool.or_eq_true, hM, decide_eq_true_eq]
          constructor
          · rintro ((w | ⟨j', w1, w2⟩) | w)
            · exact .inl w
            · exact .inr ⟨j', by omega, w2⟩
            · exact .inr ⟨j, by omega, w.symm⟩
          · rintro (w | ⟨j', w1, w2⟩)
            · exact .inl (.inl w)
            · by_cases z : j' < j
              · exact .inl (.inr ⟨j', z, w2⟩)
              · have : j' = j := by omega
                rw [this] at w2
                exact .inr w2.symm
      · rintro σ H5 ⟨M, y, rfl, s6, e6, hM⟩
        refine ⟨M, _, _, _, rfl, s6, fun b => ?_⟩
        rw [hM, hN]
        rw [lrm]
        constructor
        · rintro (⟨a, j, w1, w2, w3⟩ | ⟨j, w1, w2⟩)
          · exact ⟨a, j, by omega, w2, w3⟩
          · exact ⟨i, j, by omega, w1, w2⟩
        · rintro ⟨a, j, w1, w2, w3⟩
          by_cases z : a < i
          · exact .inl ⟨a, j, z, w2, w3⟩
          · have : a = i := by omega
            rw [this] at w3
            exact .inr ⟨j, w2, w3⟩
    · rintro σ H2 ⟨N, y1, y2, y3, rfl, s2, hN⟩
      exact ⟨_, rfl, q N H2 hN s2⟩
end
end Th
namespace Th
open PySem PySem.Spec PyProof.Rows L2
abbrev s_l_same : Stmt := topS 33
theorem sc_l_same : FnScope ["_law_found", "_law_due", "_law_k"] ["_law_found", "_law_due"] (defScope s_l_same) := ⟨rfl, rfl, rfl, by decide +kernel, rfl, by decide +kernel, by decide +kernel⟩

/-- two values of the same datum are told to be the same -/
def spSm (K : PySem.W.Frag) (n : Nat) : Sp := fun vs H Q _ => ∃ (v u : V) (d : PyData), vs = [v, u] ∧ Da K H v d ∧ Da K H u d ∧ LvN n d ∧ ∀ H', Same H H' → Q (.bl true) H'
theorem kit_is {K : PySem.W.Frag} (d : PyData) (h : tyD d ≠ "dict") : PySem.W.kitAny K (.type (tyD d)) [.type "int", .type "str"] = some (decide (tyD d = "int" ∨ tyD d = "bool" ∨ tyD d = "str")) := by
  by_cases e1 : tyD d = "int" ∨ tyD d = "bool"
  · refine kitAny_cons (kit_ty (kit_int d h)) (fun z => ?_) (fun _ => ?_)
    · rw [decide_eq_true e1] at z
      cases z
    · exact decide_eq_true (e1.elim .inl fun z => .inr (.inl z))
  · refine kitAny_cons (kit_ty (kit_int d h)) (fun _ => ?_) (fun z => absurd (of_decide_eq_true z) e1)
    refine kitAny_cons (kit_ty (kit_str d h)) (fun z => ?_) (fun z => decide_eq_true (.inr (.inr (of_decide_eq_true z))))
    rw [kitAny_nil, decide_eq_false]
    rintro (q | q | q)
    · exact e1 (.inl q)
    · exact e1 (.inr q)
    · exact of_decide_eq_false z q
section
variable {P : Program} {w : World} {K : PySem.W.Frag} {mg : Str → Option Value} {base : Heap}
theorem same_step (Z : Zs mg) {f : Addr} {fd : FuncData} (F : Fun K "_law_same" "_law_same" s_l_same f fd) (m_l_same : mg "_law_same" = some (.ref f)) (b_l_same : Binds K fd ["_law_found", "_law_due"] []) (k : Nat)
    (G_l_same : FnOk P w K mg base CX0 k f fd ["_law_found", "_law_due"] (spSm K k)) : FnOk P w K mg base CX0 (k + 1) f fd ["_law_found", "_law_due"] (spSm K (k + 1)) := by
  have k_l_same := F.kp
  refine F.ok sc_l_same (fun vs H Q E h => ?_) (fun cdv A outer s H vs Q E hr h => ?_)
  · obtain ⟨v, u, d, rfl, _⟩ := h
    rfl
  · obtain ⟨v, u, d, rfl, rv, ru, lv, q⟩ := h
    have lv : Lv k d := lv
    have nd := rv.nodict
    refine ⟨_, (pss_cons (ps_if (PW.pt (pw_or (pt_cmpR op_isN (pv 1) pe_non (nomark _)) (pw_or1 (pt_cmpR op_isN (pv 0) pe_non (nomark _))))) (pss_one (ps_ret (pe_and (pe_cmpR op_isN (pv 1) pe_non (nomark _)) (pe_one (pe_cmpR op_isN (pv 0) pe_non (nomark _)))))) pss_nil) (pss_cons (ps_if (PW.pt (pw_or (pt_val (pe_callB call_isi (by rfl) Z.isinstance_ (by decide +kernel) (pa_cons (pv 1) (pa_cons (pe_bltn (v := .ty "bool") (by rfl) Z.bool_ (by decide +kernel) rfl) pa_nil)))) (pw_or1 (pt_val (pe_callB call_isi (by rfl) Z.isinstance_ (by decide +kernel) (pa_cons (pv 0) (pa_cons (pe_bltn (v := .ty "bool") (by rfl) Z.bool_ (by decide +kernel) rfl) pa_nil))))))) (pss_one (ps_ret (pe_and (pe_callB call_isi (by rfl) Z.isinstance_ (by decide +kernel) (pa_cons (pv 1) (pa_cons (pe_bltn (v := .ty "bool") (by rfl) Z.bool_ (by decide +kernel) rfl) pa_nil))) (pe_and (pe_callB call_isi (by rfl) Z.isinstance_ (by decide +kernel) (pa_cons (pv 0) (pa_cons (pe_bltn (v := .ty "bool") (by rfl) Z.bool_ (by decide +kernel) rfl) pa_nil))) (pe_one (pe_cmpR op_eq (pv 0) (pv 1) (nomark _))))))) pss_nil) (pss_cons (ps_if (pt_val (pe_callB (show CallR _ (.builtin "isinstance") (rIsiT K) from call_isiT) (by rfl) Z.isinstance_ (by decide +kernel) (pa_cons (pv 1) (pa_cons (pe_tup (pa_cons (pe_bltn (v := .ty "int") (by rfl) Z.int_ (by decide +kernel) rfl) (pa_cons (pe_bltn (v := .ty "str") (by rfl) Z.str_ (by decide +kernel) rfl) pa_nil))) pa_nil)))) (pss_one (ps_ret (pe_and (pe_callB (show CallR _ (.builtin "isinstance") (rIsiT K) from call_isiT) (by rfl) Z.isinstance_ (by decide +kernel) (pa_cons (pv 0) (pa_cons (pe_tup (pa_cons (pe_bltn (v := .ty "int") (by rfl) Z.int_ (by decide +kernel) rfl) (pa_cons (pe_bltn (v := .ty "str") (by rfl) Z.str_ (by decide +kernel) rfl) pa_nil))) pa_nil))) (pe_and (pe_cmpR op_eq (pe_callB call_isi (by rfl) Z.isinstance_ (by decide +kernel) (pa_cons (pv 0) (pa_cons (pe_bltn (v := .ty "int") (by rfl) Z.int_ (by decide +kernel) rfl) pa_nil))) (pe_callB call_isi (by rfl) Z.isinstance_ (by decide +kernel) (pa_cons (pv 1) (pa_cons (pe_bltn (v := .ty "int") (by rfl) Z.int_ (by decide +kernel) rfl) pa_nil))) (nomark _)) (pe_one (pe_cmpR op_eq (pv 0) (pv 1) (nomark _))))))) pss_nil) (pss_cons (ps_if (PW.pt (pw_or (pt_cmpR op_ne (pe_callB call_isi (by rfl) Z.isinstance_ (by decide +kernel) (pa_cons (pv 0) (pa_cons (pe_bltn (v := .ty "list") (by rfl) Z.list_ (by decide +kernel) rfl) pa_nil))) (pe_callB call_isi (by rfl) Z.isinstance_ (by decide +kernel) (pa_cons (pv 1) (pa_cons (pe_bltn (v := .ty "list") (by rfl) Z.list_ (by decide +kernel) rfl) pa_nil))) (nomark _)) (pw_or1 (pt_cmpR op_ne (pe_callB call_isi (by rfl) Z.isinstance_ (by decide +kernel) (pa_cons (pv 0) (pa_cons (pe_bltn (v := .ty "tuple") (by rfl) Z.tuple_ (by decide +kernel) rfl) pa_nil))) (pe_callB call_isi (by rfl) Z.isinstance_ (by decide +kernel) (pa_cons (pv 1) (pa_cons (pe_bltn (v := .ty "tuple") (by rfl) Z.tuple_ (by decide +kernel) rfl) pa_nil))) (nomark _))))) (pss_one (ps_ret pe_bl)) pss_nil) (pss_cons (ps_if (pt_val (pe_callB (show CallR _ (.builtin "isinstance") (rIsiT K) from call_isiT) (by rfl) Z.isinstance_ (by decide +kernel) (pa_cons (pv 1) (pa_cons (pe_tup (pa_cons (pe_bltn (v := .ty "list") (by rfl) Z.list_ (by decide +kernel) rfl) (pa_cons (pe_bltn (v := .ty "tuple") (by rfl) Z.tuple_ (by decide +kernel) rfl) pa_nil))) pa_nil)))) (pss_one (ps_ret (pe_and (pe_cmpR op_eq (pe_callB call_len_seq (by rfl) Z.len_ (by decide +kernel) (pa_cons (pv 0) pa_nil)) (pe_callB call_len_seq (by rfl) Z.len_ (by decide +kernel) (pa_cons (pv 1) pa_nil)) (nomark _)) (pe_one (pe_callB (cr_all rfl) (by rfl) Z.all_ (by decide +kernel) (pa_cons (pe_lc (own := [("_law_k", 2)]) (g := gName 2) (by rfl) sc_l_same.nd (pi_range1 (by rfl) Z.range_ (pa_cons (pe_callB call_len_seq (by rfl) Z.len_ (by decide +kernel) (pa_cons (pv 1) pa_nil)) pa_nil)) (blkOk_by (own := [("_law_k", 2)]) (N := ["_law_found", "_law_due", "_law_k"]) (sc := defScope s_l_same) (by decide +kernel)) (fun _ _ _ _ _ => pg_name (i := 2) sc_l_same.nd rfl (Or.inl rfl)) (fun _ _ _ _ _ => pts_nil) (fun _ _ _ _ _ => (pe_call G_l_same (hr.mono (Nat.le_refl _)) (by rfl) m_l_same k_l_same b_l_same .nil pass0 (pa_cons (pe_ix (show IxR _ (rIx K) from ix_seq) (pv 0) (pv 2) (fun _ _ => rfl)) (pa_cons (pe_ix (show IxR _ (rIx K) from ix_seq) (pv 1) (pv 2) (fun _ _ => rfl)) pa_nil))))) pa_nil)))))) pss_nil) (pss_one (ps_ret (pe_cmpR op_eq (pv 0) (pv 1) (nomark _))))))))), ?_⟩
    have s00 := Same.refl H
    by_cases hseq : tyD d = "list" ∨ tyD d = "tuple"
    · obtain ⟨p, r, xs, ys, ds, ev, eu, hp, hr2, rx, ry, hl, lvx⟩ := da_two rv ru hseq lv
      have nb : tyD d ≠ "bool" := fun z => by rcases hseq with e | e <;> rw [e] at z <;> exact absurd z (by decide)
      have ni : ¬ (tyD d = "int" ∨ tyD d = "bool" ∨ tyD d = "str") := fun z => by rcases hseq with e | e <;> rw [e] at z <;> rcases z with w | w | w <;> exact absurd w (by decide)
      subst ev eu
      refine ⟨_, rfl, rfl, _, rfl, iteF ?_⟩
      refine ⟨_, rfl, rfl, _, rfl, iteF ?_⟩
      refine ⟨_, rfl, _, _, _, _, _, rfl, .ty "bool", ru.ty, kit_ty (kit_bool _ nd), _, rfl, ?_⟩
      rw [decide_eq_false nb]
      refine iteF ?_
      refine ⟨_, rfl, _, _, _, _, _, rfl, .ty "bool", rv.ty, kit_ty (kit_bool _ nd), _, rfl, ?_⟩
      rw [decide_eq_false nb]
      refine iteF ?_
      refine ⟨_, rfl, (by show 2 ≤ sizeLine; decide), fun t nt => ⟨_, t, _, _, _, _, rfl, upd_same, .cons (.ty _) (.cons (.ty _) .nil), ty_same (same_new nt) ru.ty, kit_is d nd, _, rfl, ?_⟩⟩
      rw [decide_eq_false ni]
      refine iteF ?_
      have s01 : Same H (upd H t (.tup [.ty "int", .ty "str"])) := same_new nt
      generalize upd H t (.tup [.ty "int", .ty "str"]) = H0 at s01 ⊢
      have rv0 := rv.to s01
      have ru0 := ru.to s01
      refine ⟨_, rfl, _, _, _, _, _, rfl, .ty "list", rv0.ty, kit_ty (kit_list d nd), _, rfl, _, _, _, _, _, rfl, .ty "list", ru0.ty, kit_ty (kit_list d nd), rfl, _, rfl, ?_⟩
      refine iteNS rfl ?_
      refine ⟨_, rfl, _, _, _, _, _, rfl, .ty "tuple", rv0.ty, kit_ty (kit_tuple d nd), _, rfl, _, _, _, _, _, rfl, .ty "tuple", ru0.ty, kit_ty (kit_tuple d nd), rfl, _, rfl, ?_⟩
      refine iteNS rfl ?_
      refine ⟨_, rfl, (by show 2 ≤ sizeLine; decide), fun t2 nt2 => ⟨_, t2, _, _, _, _, rfl, upd_same, .cons (.ty _) (.cons (.ty _) .nil), ty_same (same_new nt2) ru0.ty, kit_lt d nd, _, rfl, ?_⟩⟩
      rw [decide_eq_true hseq]
      refine iteT ?_
      have s0 := s01.trans (same_new (o := .tup [.ty "list", .ty "tuple"]) nt2)
      generalize upd H0 t2 (.tup [.ty "list", .ty "tuple"]) = H1 at s0 ⊢
      have rx := rx.to s0
      have ry := ry.to s0
      have hp := sq_any s0 hp
      have hr2 := sq_any s0 hr2
      have l1 := rx.len
      have l2 := ry.len
      refine ⟨_, rfl, p, xs, rfl, hp, _, rfl, r, ys, rfl, hr2, rfl, _, rfl, ?_⟩
      refine ite2 (fun _ => ?_) (fun z => absurd (decide_eq_true (by rw [l1, l2])) z)
      refine ⟨_, rfl, r, ys, rfl, hr2, _, rfl, by omega, by omega, fun L nL => ?_⟩
      refine lc_range (lo := 0) (n := (ys.length : Int).toNat) (fun i H2 => Same H1 H2 ∧ H2 L = some (.lst ((List.replicate i true).map V.bl))) ⟨same_new nL, upd_same⟩ ?_ ?_
      · rintro i H2 hi ⟨s2, e2⟩
        have hi' : i < ys.length := by omega
        obtain ⟨x, hx⟩ : ∃ x, xs[i]? = some x := ⟨_, List.getElem?_eq_getElem (by omega)⟩
        obtain ⟨y, hy⟩ : ∃ y, ys[i]? = some y := ⟨_, List.getElem?_eq_getElem hi'⟩
        obtain ⟨e, he, re⟩ := rx.at hx
        obtain ⟨e', he', re'⟩ := ry.at hy
        rw [he] at he'
        cases he'
        refine ⟨rfl, _, rfl, _, rfl, ix_any (sq_any s2 hp) hx ⟨_, rfl, _, rfl, ix_any (sq_any s2 hr2) hy ⟨x, y, e, rfl, re.to s2, re'.to s2, lvx e (List.mem_of_getElem? he), fun H3 s3 => ?_⟩⟩⟩
        refine ⟨_, s3 _ _ e2, slineL (by rw [List.length_map, List.length_replicate]; omega), same_mut (s2.trans s3) nL, ?_⟩
        rw [upd_same, List.replicate_succ', List.map_append]
        rfl
      · rintro H2 ⟨s2, e2⟩
        refine ⟨L, _, rfl, .inl (.inl e2), ?_⟩
        have ea : (List.replicate (ys.length : Int).toNat true).all id = true := by
          rw [List.all_eq_true]
          intro b hb
          exact (List.mem_replicate.mp hb).2
        rw [ea]
        exact q H2 (s0.trans s2)
    have fin := q H s00
    cases d with
    | list ds => exact absurd (.inl rfl) hseq
    | tuple ds => exact absurd (.inr rfl) hseq
    | dict kvs => exact absurd rfl nd
    | none =>
      cases rv
      cases ru
      refine ⟨_, rfl, rfl, _, rfl, iteT ?_⟩
      exact ⟨_, rfl, rfl, _, rfl, iteT ⟨_, rfl, rfl, fin⟩⟩
    | bool b =>
      have hv : v = .bl b := by cases rv; rfl
      have hu : u = .bl b := by cases ru; rfl
      subst hv hu
      refine ⟨_, rfl, rfl, _, rfl, iteF ?_⟩
      refine ⟨_, rfl, rfl, _, rfl, iteF ?_⟩
      refine ⟨_, rfl, _, _, _, _, _, rfl, .ty "bool", ru.ty, kit_ty (kit_bool _ nd), _, rfl, iteT ?_⟩
      refine ⟨_, rfl, _, _, _, _, _, rfl, .ty "bool", ru.ty, kit_ty (kit_bool _ nd), _, rfl, iteT ?_⟩
      refine ⟨_, rfl, _, _, _, _, _, rfl, .ty "bool", rv.ty, kit_ty (kit_bool _ nd), _, rfl, iteT ?_⟩
      refine ⟨_, rfl, _, rfl, rfl, ?_⟩
      rw [decide_eq_true rfl]
      exact fin
    | int b =>
      have hv : v = .int b := by cases rv; rfl
      have hu : u = .int b := by cases ru; rfl
      subst hv hu
      refine ⟨_, rfl, rfl, _, rfl, iteF ?_⟩
      refine ⟨_, rfl, rfl, _, rfl, iteF ?_⟩
      refine ⟨_, rfl, _, _, _, _, _, rfl, .ty "bool", ru.ty, kit_ty (kit_bool _ nd), _, rfl, iteF ?_⟩
      refine ⟨_, rfl, _, _, _, _, _, rfl, .ty "bool", rv.ty, kit_ty (kit_bool _ nd), _, rfl, iteF ?_⟩
      refine ⟨_, rfl, (by show 2 ≤ sizeLine; decide), fun t nt => ⟨_, t, _, _, _, _, rfl, upd_same, .cons (.ty _) (.cons (.ty _) .nil), ty_same (same_new nt) ru.ty, kit_is _ nd, _, rfl, iteT ?_⟩⟩
      have s1 := same_new (o := .tup [.ty "int", .ty "str"]) nt
      refine ⟨_, rfl, (by show 2 ≤ sizeLine; decide), fun t2 nt2 => ⟨_, t2, _, _, _, _, rfl, upd_same, .cons (.ty _) (.cons (.ty _) .nil), ty_same (s1.trans (same_new nt2)) rv.ty, kit_is _ nd, _, rfl, iteT ?_⟩⟩
      have s2 := s1.trans (same_new (o := .tup [.ty "int", .ty "str"]) nt2)
      refine ⟨_, rfl, _, _, _, _, _, rfl, .ty "int", ty_same s2 rv.ty, kit_ty (kit_int _ nd), _, rfl, _, _, _, _, _, rfl, .ty "int", ty_same s2 ru.ty, kit_ty (kit_int _ nd), rfl, _, rfl, iteT ?_⟩
      refine ⟨_, rfl, _, rfl, rfl, ?_⟩
      rw [decide_eq_true rfl]
      exact q _ s2
    | str b =>
      have hv : v = .str b := by cases rv; rfl
      have hu : u = .str b := by cases ru; rfl
      subst hv hu
      refine ⟨_, rfl, rfl, _, rfl, iteF ?_⟩
      refine ⟨_, rfl, rfl, _, rfl, iteF ?_⟩
      refine ⟨_, rfl, _, _, _, _, _, rfl, .ty "bool", ru.ty, kit_ty (kit_bool _ nd), _, rfl, iteF ?_⟩
      refine ⟨_, rfl, _, _, _, _, _, rfl, .ty "bool", rv.ty, kit_ty (kit_bool _ nd), _, rfl, iteF ?_⟩
      refine ⟨_, rfl, (by show 2 ≤ sizeLine; decide), fun t nt => ⟨_, t, _, _, _, _, rfl, upd_same, .cons (.ty _) (.cons (.ty _) .nil), ty_same (same_new nt) ru.ty, kit_is _ nd, _, rfl, iteT ?_⟩⟩
      have s1 := same_new (o := .tup [.ty "int", .ty "str"]) nt
      refine ⟨_, rfl, (by show 2 ≤ sizeLine; decide), fun t2 nt2 => ⟨_, t2, _, _, _, _, rfl, upd_same, .cons (.ty _) (.cons (.ty _) .nil), ty_same (s1.trans (same_new nt2)) rv.ty, kit_is _ nd, _, rfl, iteT ?_⟩⟩
      have s2 := s1.trans (same_new (o := .tup [.ty "int", .ty "str"]) nt2)
      refine ⟨_, rfl, _, _, _, _, _, rfl, .ty "int", ty_same s2 rv.ty, kit_ty (kit_int _ nd), _, rfl, _, _, _, _, _, rfl, .ty "int", ty_same s2 ru.ty, kit_ty (kit_int _ nd), rfl, _, rfl, iteT ?_⟩
      refine ⟨_, rfl, _, rfl, rfl, ?_⟩
      rw [decide_eq_true rfl]
      exact q _ s2
theorem has_l_same (Z : Zs mg) (A : At K mg "_law_same" s_l_same ["_law_found", "_law_due"]) : Has P w K mg base "_law_same" s_l_same 6 ["_law_found", "_law_due"] (spSm K 6) := by
  obtain ⟨f, fd, F, mg1, bd⟩ := A
  refine ⟨f, fd, ?_, mg1, F.kp, bd, F⟩
  have G0 : FnOk P w K mg base CX0 0 f fd ["_law_found", "_law_due"] (spSm K 0) := ⟨fun vs H Q E h => by obtain ⟨v, u, d, rfl, _⟩ := h; rfl, fun A outer s H args us vs Q E hr he hb hv hs => by obtain ⟨v, u, d, rfl, _, _, z, _⟩ := hs; exact z.elim⟩
  exact same_step Z F mg1 bd 5 (same_step Z F mg1 bd 4 (same_step Z F mg1 bd 3 (same_step Z F mg1 bd 2 (same_step Z F mg1 bd 1 (same_step Z F mg1 bd 0 G0)))))
end
end Th
namespace Th
open PySem PySem.Spec PyProof.Rows L2
abbrev s_p_is_name : Stmt := topS 9
theorem sc_p_is_name : FnScope ["value", "sign"] ["value"] (defScope s_p_is_name) := ⟨rfl, rfl, rfl, by decide +kernel, rfl, by decide +kernel, by decide +kernel⟩

section
variable {P : Program} {w : World} {K : PySem.W.Frag} {mg : Str → Option Value} {base : Heap}
theorem has_p_is_name (n : Nat) (Z : Zs mg) (gL : ∃ t, mg "_LETTERS" = some (.str abc t)) (gM : ∃ t, mg "_MOST_LETTERS" = some (.int 6 t)) (A : At K mg "is_name" s_p_is_name ["value"]) : Has P w K mg base "is_name" s_p_is_name 1 ["value"] (spJ K n nmD) := by
  obtain ⟨f, fd, F, mg1, bd⟩ := A
  obtain ⟨tL, g_LETTERS⟩ := gL
  obtain ⟨tM, g_MOST_LETTERS⟩ := gM
  refine ⟨f, fd, ?_, mg1, F.kp, bd, F⟩
  refine F.ok sc_p_is_name (fun vs H Q E h => ?_) (fun cdv A outer s H vs Q E hr h => ?_)
  · obtain ⟨v, d, rfl, _⟩ := h
    rfl
  · obtain ⟨v, d, rfl, r, lv, q⟩ := h
    refine ⟨_, (pss_one (ps_ret (pe_and (pe_callB call_isi (by rfl) Z.isinstance_ (by decide +kernel) (pa_cons (pv 0) (pa_cons (pe_bltn (v := .ty "str") (by rfl) Z.str_ (by decide +kernel) rfl) pa_nil))) (pe_and (pe_chain op_le op_le pe_int (pe_callB call_len_str (by rfl) Z.len_ (by decide +kernel) (pa_cons (pv 0) pa_nil)) (pe_glob (v := .int 6) (by rfl) g_MOST_LETTERS ⟨_, rfl⟩)) (pe_one (pe_callB (cr_all rfl) (by rfl) Z.all_ (by decide +kernel) (pa_cons (pe_lc (own := [("sign", 1)]) (g := gName 1) (by rfl) sc_p_is_name.nd (pi_str (pv 0)) (blkOk_by (own := [("sign", 1)]) (N := ["value", "sign"]) (sc := defScope s_p_is_name) (by decide +kernel)) (fun _ _ _ _ _ => pg_name (i := 1) sc_p_is_name.nd rfl (Or.inl rfl)) (fun _ _ _ _ _ => pts_nil) (fun _ _ _ _ _ => (pe_cmpR op_in_sign (pv 1) (pe_glob (v := .str abc) (by rfl) g_LETTERS ⟨_, rfl⟩) (by rfl)))) pa_nil))))))), ?_⟩
    refine ⟨_, rfl, v, _, _, _, _, rfl, .ty "str", r.ty, kit_ty (kit_str d r.nodict), _, rfl, ?_⟩
    cases d with
    | str x =>
      have hv : v = .str x := by
        cases r
        rfl
      subst hv
      have hx : x.length ≤ 100000 := by
        cases n <;> exact lv.1
      refine iteT ?_
      refine ⟨_, rfl, _, rfl, sline hx, _, _, rfl, rfl, _, rfl, ?_⟩
      have fin : ∀ b : Bool, b = isNm x → Q (.bl b) H := fun b e => by
        rw [e]
        exact q H (Same.refl H)
      refine ite2 (fun h1 => ?_) (fun h1 => ⟨_, rfl, iteF (fin _ ?_)⟩)
      · refine ⟨_, _, rfl, rfl, _, rfl, ?_⟩
        refine ite2 (fun h2 => ?_) (fun h2 => fin _ ?_)
        · refine ⟨_, rfl, x, rfl, fun L nL => ?_⟩
          refine lc_it (walk_str (z := x)) (fun i H2 => Same H H2 ∧ H2 L = some (.lst (((cs x).take i).map fun c => V.bl (decide (c ∈ cs abc))))) ⟨same_new nL, upd_same⟩ (fun _ _ _ _ => trivial) ?_ ?_
          · rintro i y H2 H3 hi ⟨s2, e2⟩ ⟨rfl, c, hc, rfl⟩
            have hc' : (cs x)[i]? = some c := by
              unfold cs
              rw [Array.getElem?_toList]
              exact hc
            have hl := lt_of_get hc'
            rw [← cs_len] at hl
            refine ⟨rfl, _, rfl, c, abc, rfl, rfl, _, e2, slineL ?_, ?_⟩
            · rw [List.length_map, List.length_take]
              omega
            · refine ⟨same_mut s2 nL, ?_⟩
              rw [upd_same, take_succ_map hc']
              rfl
          · rintro H2 ⟨s2, e2⟩
            have e3 : (cs x).take x.cps.size = cs x := List.take_of_length_le (by rw [← cs_len]; exact Nat.le_refl _)
            rw [e3] at e2
            refine ⟨L, (cs x).map fun c => decide (c ∈ cs abc), rfl, .inl (.inl (by rw [e2, List.map_map]; rfl)), ?_⟩
            have e4 : ((cs x).map fun c => decide (c ∈ cs abc)).all id = isNm x := by
              unfold isNm
              have a1 : decide (1 ≤ x.length) = true := decide_eq_true (by have := of_decide_eq_true h1; omega)
              have a2 : decide (x.length ≤ 6) = true := decide_eq_true (by have := of_decide_eq_true h2; omega)
              rw [a1, a2, List.all_map]
              rfl
            rw [e4]
            exact q H2 s2
        · have a2 : ¬ x.length ≤ 6 := fun z => h2 (decide_eq_true (by omega))
          unfold isNm
          rw [decide_eq_false a2, Bool.and_false, Bool.false_and]
      · have a1 : ¬ 1 ≤ x.length := fun z => h1 (decide_eq_true (by omega))
        unfold isNm
        rw [decide_eq_false a1, Bool.false_and, Bool.false_and]
    | _ => exact iteF (q H (Same.refl H))
end
end Th
namespace Th
open PySem PySem.Spec PyProof.Rows L2
abbrev s_p_are_names : Stmt := topS 10
theorem sc_p_are_names : FnScope ["values", "value"] ["values"] (defScope s_p_are_names) := ⟨rfl, rfl, rfl, by decide +kernel, rfl, by decide +kernel, by decide +kernel⟩
/-- whether all items of a tuple are names -/
def spNmsT (K : PySem.W.Frag) : Sp := fun vs H Q _ => ∃ (a : Addr) (xs : List V) (ds : List PyData), vs = [.ref a] ∧ SqT K H a xs ∧ DaAll K H xs ds ∧ ds.length ≤ 1000 ∧ (∀ d ∈ ds, Lv 5 d) ∧ ∀ H', Same H H' → Q (.bl (ds.all nmD)) H'
theorem all_take {f : PyData → Bool} (l : List PyData) : (l.map f).all id = l.all f := by
  rw [List.all_map]
  rfl
section
variable {P : Program} {w : World} {K : PySem.W.Frag} {mg : Str → Option Value} {base : Heap}
theorem has_p_are_names (Z : Zs mg) (A : At K mg "are_names" s_p_are_names ["values"]) (h_p_is_name : Has P w K mg base "is_name" s_p_is_name 1 ["value"] (spJ K 5 nmD)) : Has P w K mg base "are_names" s_p_are_names 2 ["values"] (spNmsT K) := by
  obtain ⟨f, fd, F, mg1, bd⟩ := A
  obtain ⟨f_p_is_name, fd_p_is_name, G_p_is_name, m_p_is_name, k_p_is_name, b_p_is_name, F_p_is_name⟩ := h_p_is_name
  refine ⟨f, fd, ?_, mg1, F.kp, bd, F⟩
  refine F.ok sc_p_are_names (fun vs H Q E h => ?_) (fun cdv A outer s H vs Q E hr h => ?_)
  · obtain ⟨a, xs, ds, rfl, _⟩ := h
    rfl
  · obtain ⟨a, xs, ds, rfl, hS, r, hl, lv, q⟩ := h
    refine ⟨_, (pss_one (ps_ret (pe_callB (cr_all rfl) (by rfl) Z.all_ (by decide +kernel) (pa_cons (pe_lc (own := [("value", 1)]) (g := gName 1) (by rfl) sc_p_are_names.nd (pi_tup (pv 0)) (blkOk_by (own := [("value", 1)]) (N := ["values", "value"]) (sc := defScope s_p_are_names) (by decide +kernel)) (fun _ _ _ _ _ => pg_name (i := 1) sc_p_are_names.nd rfl (Or.inl rfl)) (fun _ _ _ _ _ => pts_nil) (fun _ _ _ _ _ => (pe_call G_p_is_name (hr.mono (by decide)) (by rfl) m_p_is_name k_p_is_name b_p_is_name .nil pass0 (pa_cons (pv 1) pa_nil)))) pa_nil)))), ?_⟩
    refine ⟨_, rfl, a, rfl, ⟨xs, hS⟩, fun L nL => ?_⟩
    have hlen := r.len
    refine lc_tup (K := K) (a := a) (xs := xs) (fun i H2 => Same H H2 ∧ H2 L = some (.lst ((ds.take i).map fun d => V.bl (nmD d)))) ⟨same_new nL, upd_same⟩ (fun i H2 _ z => same_t z.1 hS) ?_ ?_
    · rintro i v H2 hi ⟨s2, e2⟩
      obtain ⟨d, hd, rd⟩ := r.at hi
      refine ⟨rfl, _, rfl, v, d, rfl, rd.to s2, lv d (List.mem_of_getElem? hd), fun H3 s3 => ?_⟩
      refine ⟨_, s3 _ _ e2, slineL (by rw [List.length_map, List.length_take]; omega), same_mut (s2.trans s3) nL, ?_⟩
      rw [upd_same, take_succ_map hd]
    · rintro H2 ⟨s2, e2⟩
      rw [hlen, List.take_length] at e2
      refine ⟨L, ds.map nmD, rfl, .inl (.inl (by rw [e2, List.map_map]; rfl)), ?_⟩
      rw [all_take]
      exact q H2 s2
end
end Th
namespace Th
open PySem PySem.Spec PyProof.Rows L2
abbrev s_p_is_order : Stmt := topS 14
theorem sc_p_is_order : FnScope ["finds", "value"] ["finds", "value"] (defScope s_p_is_order) := ⟨rfl, rfl, rfl, by decide +kernel, rfl, by decide +kernel, by decide +kernel⟩
/-- a datum is an order of the finds -/
def IsOrd (fs : List Str) (d : PyData) : Prop := ∃ ss : List Str, d = .tuple (ss.map .str) ∧ (∀ s ∈ ss, isNm s = true) ∧ ss.Perm fs
theorem strs_inj {a b : List Str} (e : a.map PyData.str = b.map .str) : a = b := by
  have q := congrArg (List.map strD) e
  rw [List.map_map, List.map_map] at q
  have i : (strD ∘ PyData.str) = id := rfl
  rw [i, List.map_id, List.map_id] at q
  exact q
theorem ord_all {fs : List Str} {ds : List PyData} (h : IsOrd fs (.tuple ds)) : ds.all nmD = true := by
  obtain ⟨ss, e, n, _⟩ := h
  cases e
  rw [List.all_map]
  exact List.all_eq_true.mpr fun s hs => n s hs
theorem ord_perm {fs zs : List Str} (n : ∀ z ∈ zs, isNm z = true) : IsOrd fs (.tuple (zs.map .str)) ↔ zs.Perm fs := by
  constructor
  · rintro ⟨ss, e, _, p⟩
    have e2 : zs.map PyData.str = ss.map .str := by injection e
    rw [strs_inj e2]
    exact p
  · exact fun p => ⟨zs, rfl, n, p⟩
theorem ord_sorted {ys zs ws fs : List Str} (p : ys.Perm zs) (s : sortedS ys = true) (p' : ws.Perm fs) (s' : sortedS ws = true) : ys = ws ↔ zs.Perm fs := by
  constructor
  · intro e
    rw [e] at p
    exact p.symm.trans p'
  · intro q
    exact sorted_one ((p.trans q).trans p'.symm) (sorted_pair s) (sorted_pair s')
theorem eqLL (ys ws : List Str) : PyData.eqv (.list (ys.map .str)) (.list (ws.map .str)) = decide (ys = ws) := by
  have e1 : PyData.eqv (.list (ys.map .str)) (.list (ws.map .str)) = PyData.eqvAll (ys.map .str) (ws.map .str) := by simp [PyData.eqv]
  rw [e1, eqv_strs]
def spIsOrd (K : PySem.W.Frag) (list : Bool) : Sp := fun vs H Q _ => ∃ (a : Addr) (v : V) (fs : List Str) (d : PyData), vs = [.ref a, v] ∧ (SqL K H a (fs.map V.str) ∨ (list = false ∧ SqT K H a (fs.map V.str))) ∧ Da K H v d ∧ Lv 4 d ∧ fs.Nodup ∧ (∀ x ∈ fs, isNm x = true) ∧ fs.length ≤ 60 ∧
  ∀ (c : Bool) H', (c = true ↔ IsOrd fs d) → Same H H' → Q (.bl c) H'
section
variable {P : Program} {w : World} {K : PySem.W.Frag} {mg : Str → Option Value} {base : Heap}
theorem has_p_is_order (Z : Zs mg) (A : At K mg "is_order" s_p_is_order ["finds", "value"]) (h_p_are_names : Has P w K mg base "are_names" s_p_are_names 2 ["values"] (spNmsT K)) : Has P w K mg base "is_order" s_p_is_order 3 ["finds", "value"] (spIsOrd K false) := by
  obtain ⟨f, fd, F, mg1, bd⟩ := A
  obtain ⟨f_p_are_names, fd_p_are_names, G_p_are_names, m_p_are_names, k_p_are_names, b_p_are_names, F_p_are_names⟩ := h_p_are_names
  refine ⟨f, fd, ?_, mg1, F.kp, bd, F⟩
  refine F.ok sc_p_is_order (fun vs H Q E h => ?_) (fun cdv A outer s H vs Q E hr h => ?_)
  · obtain ⟨a, v, fs, d, rfl, _⟩ := h
    rfl
  · obtain ⟨a, v, fs, d, rfl, ha, r, lv, ndf, nmf, lf, q⟩ := h
    have nd := r.nodict
    refine ⟨_, (pss_one (ps_ret (pe_and (pe_callB call_isi (by rfl) Z.isinstance_ (by decide +kernel) (pa_cons (pv 1) (pa_cons (pe_bltn (v := .ty "tuple") (by rfl) Z.tuple_ (by decide +kernel) rfl) pa_nil))) (pe_and (pe_call G_p_are_names (hr.mono (by decide)) (by rfl) m_p_are_names k_p_are_names b_p_are_names .nil pass0 (pa_cons (pv 1) pa_nil)) (pe_one (pe_cmpR (op_eqD hr.units) (pe_callB cr_sortedTT (by rfl) Z.sorted_ (by decide +kernel) (pa_cons (pv 1) pa_nil)) (pe_callB (cr_sortedSetS rfl) (by rfl) Z.sorted_ (by decide +kernel) (pa_cons (pe_callTy (cr_setS rfl) (by rfl) Z.set_ (by decide +kernel) (pa_cons (pv 0) pa_nil)) pa_nil)) (nomark _))))))), ?_⟩
    refine ⟨_, rfl, v, _, _, _, _, rfl, .ty "tuple", r.ty, kit_ty (kit_tuple d nd), _, rfl, ?_⟩
    have no : ∀ d, (∀ ds, d ≠ .tuple ds) → ((false : Bool) = true ↔ IsOrd fs d) := fun d hd => ⟨fun z => (nomatch z), fun ⟨_, e, _⟩ => absurd e (hd _)⟩
    cases d with
    | tuple ds =>
      cases r with
      | tup hs ht ra =>
        rename_i b xs
        have hl := ra.len
        have hl2 : ds.length ≤ 60 := lv.1
        refine iteT ?_
        refine ⟨_, rfl, b, xs, ds, rfl, hs, ra, by omega, fun d hd => (lv.2 d hd).up.up, fun H1 s1 => ⟨_, rfl, ?_⟩⟩
        cases hn : ds.all nmD with
        | false => exact iteF (q _ H1 ⟨fun z => (nomatch z), fun z => by rw [ord_all z] at hn; cases hn⟩ s1)
        | true =>
          refine iteT ?_
          have es := nms_strs hn
          generalize hx : ds.map strD = zs at es
          have ra' : DaAll K H xs (zs.map .str) := by rw [← es]; exact ra
          have exs := ra'.isStrs
          subst exs
          have lz : zs.length ≤ 60 := by rw [← hx, List.length_map]; exact hl2
          have nz : ∀ x ∈ zs, isNm x = true := fun x hx' => by
            have m : PyData.str x ∈ ds := by rw [es]; exact List.mem_map.mpr ⟨x, hx', rfl⟩
            exact List.all_eq_true.mp hn _ m
          refine ⟨_, rfl, b, zs, rfl, same_t s1 hs, by omega, fun ys l pm1 so1 nl => ?_⟩
          have s2 := s1.trans (same_new (o := .lst (ys.map V.str)) nl)
          have el : (upd H1 l (.lst (ys.map V.str))) l = some (.lst (ys.map V.str)) := upd_same
          generalize upd H1 l (.lst (ys.map V.str)) = H2 at s2 el ⊢
          have ha2 : SqL K H2 a (fs.map V.str) ∨ SqT K H2 a (fs.map V.str) := ha.imp s2.seq (fun z => same_t s2 z.2)
          refine ⟨_, rfl, a, fs, rfl, ha2, scan_small (by omega), fun p np => ?_⟩
          have lo := once_length fs []
          refine ⟨p, _, rfl, upd_same, by simp at lo; omega, fun ws u pm so nu => ?_⟩
          have pw : ws.Perm fs := pm.trans (once_perm ndf)
          have lw : ws.length ≤ 60 := by rw [pw.length_eq]; exact lf
          have s3 := (s2.trans (same_new (o := SetS P w p (once [] fs)) np)).trans (same_new (o := .lst (ws.map V.str)) nu)
          refine ⟨.list (ys.map .str), .list (ws.map .str), .lst (.inl (.inl (kp (kp el np) nu))) (DaAll.dp (K := K) _ _ (DaAll.strs ys)), .lst (.inl (.inl upd_same)) (DaAll.dp (K := K) _ _ (DaAll.strs ws)), (lv_lotL (n := 0) (fun x hx => nz x (pm1.mem_iff.mp hx)) (by rw [pm1.length_eq]; exact lz)).shaped (by decide), (lv_lotL (n := 0) (fun x hx => nmf x (pw.mem_iff.mp hx)) lw).shaped (by decide), ?_⟩
          rw [eqLL]
          refine q _ _ ?_ s3
          rw [decide_eq_true_eq, es, ord_perm nz]
          exact ord_sorted pm1 so1 pw so
    | _ => exact iteF (q _ H (no _ (fun ds z => by cases z)) (Same.refl H))
end
end Th
namespace Th
open PySem PySem.Spec PyProof.Rows L2
abbrev s_p_is_ring_order : Stmt := topS 19
theorem sc_p_is_ring_order : FnScope ["finds", "value"] ["finds", "value"] (defScope s_p_is_ring_order) := ⟨rfl, rfl, rfl, by decide +kernel, rfl, by decide +kernel, by decide +kernel⟩
/-- a datum is a ring's order of the finds: an order whose first is the least -/
def RingOrd (fs : List Str) (d : PyData) : Prop := ∃ (x : Str) (r : List Str), d = .tuple ((x :: r).map .str) ∧ (x :: r).Perm fs ∧ ∀ y ∈ fs, leS x y

def spRingO (K : PySem.W.Frag) : Sp := fun vs H Q _ => ∃ (a : Addr) (v : V) (fs : List Str) (d : PyData), vs = [.ref a, v] ∧ (SqL K H a (fs.map V.str) ∨ SqT K H a (fs.map V.str)) ∧ Da K H v d ∧ Lv 4 d ∧ fs.Nodup ∧ (∀ x ∈ fs, isNm x = true) ∧ fs.length ≤ 60 ∧ fs ≠ [] ∧
  ∀ (c : Bool) H', (c = true ↔ RingOrd fs d) → Same H H' → Q (.bl c) H'
theorem RingOrd.ord {fs : List Str} {d : PyData} (n : ∀ x ∈ fs, isNm x = true) (h : RingOrd fs d) : IsOrd fs d := by
  obtain ⟨x, r, e, p, _⟩ := h
  exact ⟨x :: r, e, fun s hs => n s (p.mem_iff.mp hs), p⟩
section
variable {P : Program} {w : World} {K : PySem.W.Frag} {mg : Str → Option Value} {base : Heap}
theorem has_p_is_ring_order (Z : Zs mg) (A : At K mg "is_ring_order" s_p_is_ring_order ["finds", "value"]) (h_p_is_order : Has P w K mg base "is_order" s_p_is_order 3 ["finds", "value"] (spIsOrd K false)) : Has P w K mg base "is_ring_order" s_p_is_ring_order 4 ["finds", "value"] (spRingO K) := by
  obtain ⟨f, fd, F, mg1, bd⟩ := A
  obtain ⟨f_p_is_order, fd_p_is_order, G_p_is_order, m_p_is_order, k_p_is_order, b_p_is_order, F_p_is_order⟩ := h_p_is_order
  refine ⟨f, fd, ?_, mg1, F.kp, bd, F⟩
  refine F.ok sc_p_is_ring_order (fun vs H Q E h => ?_) (fun cdv A outer s H vs Q E hr h => ?_)
  · obtain ⟨a, v, fs, d, rfl, _⟩ := h
    rfl
  · obtain ⟨a, v, fs, d, rfl, ha, r, lv, ndf, nmf, lf, ne, q⟩ := h
    refine ⟨_, (pss_one (ps_ret (pe_and (pe_call G_p_is_order (hr.mono (by decide)) (by rfl) m_p_is_order k_p_is_order b_p_is_order .nil pass0 (pa_cons (pv 0) (pa_cons (pv 1) pa_nil))) (pe_one (pe_cmpR op_eq (pe_ix ix_tup (pv 1) pe_int (fun _ _ => rfl)) (pe_callB (cr_minS rfl hr.units) (by rfl) Z.min_ (by decide +kernel) (pa_cons (pv 0) pa_nil)) (nomark _)))))), ?_⟩
    refine ⟨_, rfl, _, rfl, a, v, fs, d, rfl, ha.imp id (fun z => ⟨rfl, z⟩), r, lv, ndf, nmf, lf, fun c H1 hc s1 => ⟨_, rfl, ite2 (fun k => ?_) (fun k => ?_)⟩⟩
    · obtain ⟨ss, e, nm, pm⟩ := hc.mp k
      subst e
      cases r with
      | tup hs ht ra =>
        rename_i b xs
        have exs := ra.isStrs
        subst exs
        cases ss with
        | nil => exact absurd (List.nil_perm.mp pm) ne
        | cons x t =>
          refine ⟨_, rfl, b, _, 0, _, rfl, rfl, same_t s1 hs, atI_of (by decide) rfl, _, rfl, a, fs, rfl, sq_any s1 ha, ne, fun m hm hle => ⟨rfl, ?_⟩⟩
          refine q _ H1 ?_ s1
          rw [decide_eq_true_eq]
          constructor
          · intro z
            have z := V.str.inj z
            exact ⟨x, t, rfl, pm, fun y hy => by rw [z]; exact hle y hy⟩
          · rintro ⟨x', t', e, p', hl'⟩
            have e2 := strs_inj (PyData.tuple.inj e)
            have ex : x = x' := (List.cons.inj e2).1
            subst ex
            rw [leS_anti (hl' m hm) (hle x (pm.mem_iff.mp List.mem_cons_self))]
    · refine q _ H1 ⟨fun z => (nomatch z), fun z => absurd (hc.mpr (z.ord nmf)) k⟩ s1
end
end Th
namespace Th
open PySem PySem.Spec PyProof.Rows L2
abbrev s_l_odd_thing : Stmt := topS 39
theorem sc_l_odd_thing : FnScope ["_law_bag_here", "_law_good"] ["_law_bag_here", "_law_good"] (defScope s_l_odd_thing) := ⟨rfl, rfl, rfl, by decide +kernel, rfl, by decide +kernel, by decide +kernel⟩
/-- a thing that is no name -/
def spOddT (K : PySem.W.Frag) : Sp := fun vs H Q _ => ∃ (D : DS) (x : Str), vs = [.ref D.p, .str x] ∧ Drw D H ∧ isNm x = true ∧ ∀ (v : V) (d : PyData) H', Lv 3 d → nmD d = false → Go D H H' → Da K (hid D.p H') v d → Q v H'
theorem odd_at {K : PySem.W.Frag} {H : Hp} {vs : List V} {ds : List PyData} {i : Nat} {v : V} (r : DaAll K H vs ds) (hl : ∀ d ∈ ds, Lv 3 d ∧ nmD d = false) (h : vs[i]? = some v) : ∃ d, Da K H v d ∧ Lv 3 d ∧ nmD d = false := by
  obtain ⟨d, hd, rd⟩ := r.at h
  exact ⟨d, rd, hl d (List.mem_of_getElem? hd)⟩
section
variable {P : Program} {w : World} {K : PySem.W.Frag} {mg : Str → Option Value} {base : Heap}
theorem has_l_odd_thing (Z : Zs mg) (A : At K mg "_law_odd_thing" s_l_odd_thing ["_law_bag_here", "_law_good"]) (h_l_pick : Has P w K mg base "_law_pick" s_l_pick 2 ["_law_bag_here", "_law_things"] (spPick2 K)) : Has P w K mg base "_law_odd_thing" s_l_odd_thing 3 ["_law_bag_here", "_law_good"] (spOddT K) := by
  obtain ⟨f, fd, F, mg1, bd⟩ := A
  obtain ⟨f_l_pick, fd_l_pick, G_l_pick, m_l_pick, k_l_pick, b_l_pick, F_l_pick⟩ := h_l_pick
  refine ⟨f, fd, ?_, mg1, F.kp, bd, F⟩
  refine F.ok sc_l_odd_thing (fun vs H Q E h => ?_) (fun cdv A outer s H vs Q E hr h => ?_)
  · obtain ⟨D, x, rfl, _⟩ := h
    rfl
  · obtain ⟨D, x, rfl, d, nm, q⟩ := h
    refine ⟨_, (pss_one (ps_ret (pe_call G_l_pick (hr.mono (by decide)) (by rfl) m_l_pick k_l_pick b_l_pick .nil pass0 (pa_cons (pv 0) (pa_cons (pe_lst (pa_cons pe_non (pa_cons pe_bl (pa_cons pe_int (pa_cons (pe_un un_neg pe_int) (pa_cons pe_str (pa_cons pe_str (pa_cons pe_str (pa_cons (pe_tup pa_nil) (pa_cons (pe_lst pa_nil) (pa_cons (pe_lst (pa_cons (pv 1) pa_nil)) (pa_cons (pe_tup (pa_cons (pv 1) pa_nil)) (pa_cons (pe_tup (pa_cons pe_non (pa_cons (pv 1) pa_nil))) pa_nil))))))))))))) pa_nil))))), ?_⟩
    refine ⟨_, rfl, 1, rfl, Nat.zero_le _, fun t1 n1 => ⟨Nat.zero_le _, fun t2 n2 => ⟨_, rfl, by show 1 ≤ sizeLine; decide, fun t3 n3 => ⟨_, rfl, by show 1 ≤ sizeLine; decide, fun t4 n4 => ⟨_, rfl, by show 2 ≤ sizeLine; decide, fun t5 n5 => ⟨by show 12 ≤ sizeLine; decide, fun t6 n6 => .inl ?_⟩⟩⟩⟩⟩⟩
    have g1 := (Go.refl d).new (o := .tup []) n1
    have g2 := g1.new (o := .lst []) n2
    have g3 := g2.new (o := .lst [.str x]) n3
    have g4 := g3.new (o := .tup [.str x]) n4
    have g5 := g4.new (o := .tup [.non, .str x]) n5
    have g6 := g5.new (o := .lst [.non, .bl true, .int 0, .int (-1), .str "", .str "A", .str "abcdefg", .ref t1, .ref t2, .ref t3, .ref t4, .ref t5]) n6
    have e1 := kp (u := .lst []) (upd_same (H := H) (a := t1) (o := .tup [])) n2
    have e1 := kp (u := .lst [.str x]) e1 n3
    have e1 := kp (u := .tup [.str x]) e1 n4
    have e1 := kp (u := .tup [.non, .str x]) e1 n5
    have e2 := kp (u := .lst [.str x]) (upd_same (a := t2) (o := .lst [])) n3
    have e2 := kp (u := .tup [.str x]) e2 n4
    have e2 := kp (u := .tup [.non, .str x]) e2 n5
    have e3 := kp (u := .tup [.str x]) (upd_same (a := t3) (o := .lst [.str x])) n4
    have e3 := kp (u := .tup [.non, .str x]) e3 n5
    have e4 := kp (u := .tup [.non, .str x]) (upd_same (a := t4) (o := .tup [.str x])) n5
    have e5 := upd_same (H := upd (upd (upd (upd H t1 (.tup [])) t2 (.lst [])) t3 (.lst [.str x])) t4 (.tup [.str x])) (a := t5) (o := .tup [.non, .str x])
    have p1 := d.ne_new n1
    have p2 := g1.st.ne_new n2
    have p3 := g2.st.ne_new n3
    have p4 := g3.st.ne_new n4
    have p5 := g4.st.ne_new n5
    have p6 := g5.st.ne_new n6
    generalize upd (upd (upd (upd (upd H t1 (.tup [])) t2 (.lst [])) t3 (.lst [.str x])) t4 (.tup [.str x])) t5 (.tup [.non, .str x]) = H5 at g5 g6 e1 e2 e3 e4 e5 n6 ⊢
    have rx : ∀ {H' : Hp}, Da K H' (.str x) (.str x) := .str x
    have items : DaAll K (hid D.p H5) [.non, .bl true, .int 0, .int (-1), .str "", .str "A", .str "abcdefg", .ref t1, .ref t2, .ref t3, .ref t4, .ref t5] [.none, .bool true, .int 0, .int (-1), .str "", .str "A", .str "abcdefg", .tuple [], .list [], .list [.str x], .tuple [.str x], .tuple [.none, .str x]] :=
      .cons .non (.cons (.bl _) (.cons (.int _) (.cons (.int _) (.cons (.str _) (.cons (.str _) (.cons (.str _) (.cons (Da.newT (by rw [hid_ne p1]; exact e1) .nil) (.cons (Da.newL (by rw [hid_ne p2]; exact e2) .nil) (.cons (Da.newL (by rw [hid_ne p3]; exact e3) (.cons rx .nil)) (.cons (Da.newT (by rw [hid_ne p4]; exact e4) (.cons rx .nil)) (.cons (Da.newT (by rw [hid_ne p5]; exact e5) (.cons .non (.cons rx .nil))) .nil)))))))))))
    have lx : Lv 1 (.str x) := lv_nm nm
    have ok : ∀ d ∈ [PyData.none, .bool true, .int 0, .int (-1), .str "", .str "A", .str "abcdefg", .tuple [], .list [], .list [.str x], .tuple [.str x], .tuple [.none, .str x]], Lv 3 d ∧ nmD d = false := by
      intro d hd
      have c7 : ∀ d ∈ [PyData.none, .bool true, .int 0, .int (-1), .str "", .str "A", .str "abcdefg", .tuple [], .list []], Lv 3 d ∧ nmD d = false := fun d hd => ⟨lv_of 3 d (List.all_eq_true.mp (by decide +kernel : [PyData.none, .bool true, .int 0, .int (-1), .str "", .str "A", .str "abcdefg", .tuple [], .list []].all (lvB 3) = true) d hd), by
        have := List.all_eq_true.mp (by decide +kernel : [PyData.none, .bool true, .int 0, .int (-1), .str "", .str "A", .str "abcdefg", .tuple [], .list []].all (fun d => !nmD d) = true) d hd
        simpa using this⟩
      rcases List.mem_append.mp (show d ∈ [PyData.none, .bool true, .int 0, .int (-1), .str "", .str "A", .str "abcdefg", .tuple [], .list []] ++ [.list [.str x], .tuple [.str x], .tuple [.none, .str x]] from hd) with m | m
      · exact c7 d m
      · have l1 : ∀ e ∈ [PyData.str x], Lv 2 e := fun e he => by rw [List.mem_singleton.mp he]; exact lx.up
        have l2 : ∀ e ∈ [PyData.none, .str x], Lv 2 e := fun e he => by
          rcases List.mem_cons.mp he with w | m
          · rw [w]; trivial
          · exact l1 e m
        rcases List.mem_cons.mp m with w | m
        · rw [w]; exact ⟨⟨by show 1 ≤ 60; decide, l1⟩, rfl⟩
        · rcases List.mem_cons.mp m with w | m
          · rw [w]; exact ⟨⟨by show 1 ≤ 60; decide, l1⟩, rfl⟩
          · rw [List.mem_singleton.mp m]; exact ⟨⟨by show 2 ≤ 60; decide, l2⟩, rfl⟩
    refine ⟨D, t6, _, rfl, g6.st, sqh p6 upd_same, by show 0 < 12; decide, by show 12 ≤ 1000; decide, fun i v H7 hv g7 => ?_⟩
    obtain ⟨e, re, le, ne⟩ := odd_at items ok hv
    exact q v e H7 le ne (g6.trans g7) (re.to ((Go.of g5.st (same_new n6)).trans g7).sm)
end
end Th
namespace Th
open PySem PySem.Spec PyProof.Rows L2
abbrev s_l_bent_ring : Stmt := topS 41
theorem sc_l_bent_ring : FnScope ["_law_bag_here", "_law_order_here", "_law_stranger", "_law_at", "_law_way"] ["_law_bag_here", "_law_order_here", "_law_stranger"] (defScope s_l_bent_ring) := ⟨rfl, rfl, rfl, by decide +kernel, rfl, by decide +kernel, by decide +kernel⟩
/-- a ring's order, bent -/
def spBentR (K : PySem.W.Frag) : Sp := fun vs H Q _ => ∃ (D : DS) (a : Addr) (xs : List Str) (x : Str), vs = [.ref D.p, .ref a, .str x] ∧ Drw D H ∧ TupAt K H a (xs.map V.str) ∧ a ≠ D.p ∧ isNm x = true ∧ (∀ y ∈ xs, isNm y = true) ∧ 2 ≤ xs.length ∧ xs.length ≤ 12 ∧
  ∀ (v : V) (d : PyData) H', Lv 4 d → Go D H H' → Da K (hid D.p H') v d → Q v H'
section
variable {P : Program} {w : World} {K : PySem.W.Frag} {mg : Str → Option Value} {base : Heap}
theorem has_l_bent_ring (Z : Zs mg) (A : At K mg "_law_bent_ring" s_l_bent_ring ["_law_bag_here", "_law_order_here", "_law_stranger"]) (h_l_draw : Has P w K mg base "_law_draw" s_l_draw 1 ["_law_bag_here", "_law_many"] (spDraw)) (h_l_odd_thing : Has P w K mg base "_law_odd_thing" s_l_odd_thing 3 ["_law_bag_here", "_law_good"] (spOddT K)) : Has P w K mg base "_law_bent_ring" s_l_bent_ring 4 ["_law_bag_here", "_law_order_here", "_law_stranger"] (spBentR K) := by
  obtain ⟨f, fd, F, mg1, bd⟩ := A
  obtain ⟨f_l_draw, fd_l_draw, G_l_draw, m_l_draw, k_l_draw, b_l_draw, F_l_draw⟩ := h_l_draw
  obtain ⟨f_l_odd_thing, fd_l_odd_thing, G_l_odd_thing, m_l_odd_thing, k_l_odd_thing, b_l_odd_thing, F_l_odd_thing⟩ := h_l_odd_thing
  refine ⟨f, fd, ?_, mg1, F.kp, bd, F⟩
  refine F.ok sc_l_bent_ring (fun vs H Q E h => ?_) (fun cdv A outer s H vs Q E hr h => ?_)
  · obtain ⟨D, a, xs, x, rfl, _⟩ := h
    rfl
  · obtain ⟨D, a, xs, x, rfl, d, ta, na, nx, nm, l2, l12, q⟩ := h
    refine ⟨_, (pss_cons (ps_par (i := 3) (j := 4) (by rfl) sc_l_bent_ring.nd rfl rfl (by decide) rfl rfl (pa_cons (pe_call G_l_draw (hr.mono (by decide)) (by rfl) m_l_draw k_l_draw b_l_draw .nil pass0 (pa_cons (pv 0) (pa_cons (pe_callB call_len_seq (by rfl) Z.len_ (by decide +kernel) (pa_cons (pv 1) pa_nil)) pa_nil))) (pa_cons (pe_call G_l_draw (hr.mono (by decide)) (by rfl) m_l_draw k_l_draw b_l_draw .nil pass0 (pa_cons (pv 0) (pa_cons pe_int pa_nil))) pa_nil)) (by rfl)) (pss_cons (ps_if (pt_cmpR op_lt (pv 4) pe_int (nomark _)) (pss_one (ps_ret (pe_ifExp (pt_cmpR op_eq (pv 4) pe_int (nomark _)) (pe_op op_catD (pe_slice sl_tupD (pv 1) po_none (po_some pe_int)) (pe_revT (pe_slice sl_tupD (pv 1) (po_some pe_int) po_none))) (pe_op op_catD (pe_slice sl_tupD (pv 1) (po_some (pv 3)) po_none) (pe_slice sl_tupD (pv 1) po_none (po_some (pv 3))))))) pss_nil) (pss_cons (ps_if (pt_cmpR op_eq (pv 4) pe_int (nomark _)) (pss_one (ps_ret (pe_callTy call_list_of (by rfl) Z.list_ (by decide +kernel) (pa_cons (pv 1) pa_nil)))) pss_nil) (pss_cons (ps_if (pt_cmpR op_eq (pv 4) pe_int (nomark _)) (pss_one (ps_ret (pe_op op_catD (pe_slice sl_tupD (pv 1) po_none (po_some (pv 3))) (pe_slice sl_tupD (pv 1) (po_some (pe_op op_add (pv 3) pe_int)) po_none)))) pss_nil) (pss_cons (ps_if (pt_cmpR op_eq (pv 4) pe_int (nomark _)) (pss_one (ps_ret (pe_op op_catD (pv 1) (pe_tup (pa_cons (pe_ix ix_tup (pv 1) (pv 3) (fun _ _ => rfl)) pa_nil))))) pss_nil) (pss_cons (ps_if (pt_cmpR op_eq (pv 4) pe_int (nomark _)) (pss_one (ps_ret (pe_op op_catD (pe_op op_catD (pe_slice sl_tupD (pv 1) po_none (po_some (pv 3))) (pe_tup (pa_cons (pe_ix ix_tup (pv 1) (pe_op op_sub (pv 3) pe_int) (fun _ _ => rfl)) pa_nil))) (pe_slice sl_tupD (pv 1) (po_some (pe_op op_add (pv 3) pe_int)) po_none)))) pss_nil) (pss_one (ps_ret (pe_ifExp (pt_cmpR op_eq (pv 4) pe_int (nomark _)) (pe_op op_catD (pe_op op_catD (pe_slice sl_tupD (pv 1) po_none (po_some (pv 3))) (pe_tup (pa_cons (pv 2) pa_nil))) (pe_slice sl_tupD (pv 1) (po_some (pe_op op_add (pv 3) pe_int)) po_none)) (pe_call G_l_odd_thing (hr.mono (by decide)) (by rfl) m_l_odd_thing k_l_odd_thing b_l_odd_thing .nil pass0 (pa_cons (pv 0) (pa_cons (pe_ix ix_tup (pv 1) pe_int (fun _ _ => rfl)) pa_nil)))))))))))), ?_⟩
    have nv : NmV 12 (xs.map V.str) := ⟨xs, rfl, nm, l12⟩
    have lv : (xs.map V.str).length = xs.length := List.length_map _
    generalize xs.map V.str = vs at ta nv lv ⊢
    have fin : ∀ (r : Addr) (us : List V) (H' : Hp), Go D H H' → r ≠ D.p → TupAt K H' r us → NmV 40 us → Q (.ref r) H' := fun r us H' g nr t n => by
      obtain ⟨zs, rfl, nz, lz⟩ := n
      exact q _ (.tuple (zs.map .str)) H' (lv_lot nz (by omega)) g ((t.hid nr).da (DaAll.strs zs))
    have big : ∀ n : Nat, n ≤ 1000 → n ≤ sizeLine := fun n hn => sline (by omega)
    refine ⟨_, rfl, _, rfl, a, _, rfl, .inr ta.1, D, _, rfl, d, by omega, by omega, fun at_ H1 a0 a1 g1 => ?_⟩
    refine ⟨_, rfl, D, 8, rfl, g1.st, by decide, by decide, fun way H2 w0 w1 g2 => ⟨_, _, rfl, ?_⟩⟩
    have g := g1.trans g2
    have t := ta.go na g
    have cat : ∀ {H3 H4 : Hp} {r1 r2 : Addr} {us ws : List V} {n m : Nat}, Go D H H3 → TupAt K H3 r1 us → TupAt K H3 r2 ws → r1 ≠ D.p → r2 ≠ D.p → NmV n us → NmV m ws → n + m ≤ 40 → rCatD K (.ref r1) (.ref r2) H3 Q := fun {H3 H4 r1 r2 us ws n m} g3 t1 t2 n1 n2 h1 h2 hl => by
      have l1 := h1.len
      have l2 := h2.len
      refine ⟨r1, r2, us, ws, rfl, rfl, t1, t2, big _ (by omega), fun r H4 s o t => fin r _ H4 (g3.trans (Go.of g3.st s)) (ne_or3 g3.st o n1 n2) t ?_⟩
      obtain ⟨zs, e, z1, z2⟩ := h1.app h2
      exact ⟨zs, e, z1, by omega⟩
    refine ⟨_, rfl, _, _, rfl, rfl, _, rfl, ite2 (fun hk => ?_) (fun hk => ?_)⟩
    · refine ⟨_, rfl, rfl, _, rfl, ite2 (fun hw => ?_) (fun hw => ?_)⟩
      · refine ⟨_, rfl, 1, rfl, a, _, rfl, t, fun r1 H3 s3 o3 t3 => ?_⟩
        have g3 := g.trans (Go.of g.st s3)
        refine ⟨_, rfl, 1, rfl, a, _, rfl, t.to s3, fun r2 H4 s4 o4 t4 => ?_⟩
        have g4 := g3.trans (Go.of g3.st s4)
        refine ⟨r2, _, rfl, t4.1, fun p o np od => ?_⟩
        have s5 := same_new (o := .frz o (.tup (cutV vs (some 1) none).reverse)) np
        exact cat (H4 := H) (g4.trans (Go.of g4.st s5)) ((t3.to s4).to s5) (TupAt.bare ⟨o, upd_same, od⟩) (ne_or g.st o3 na) (g4.st.ne_new np) (nv.cut _ _) (nv.cut _ _).rev (by decide)
      · refine ⟨_, rfl, _, rfl, at_, rfl, a, _, rfl, t, fun r1 H3 s3 o3 t3 => ?_⟩
        have g3 := g.trans (Go.of g.st s3)
        refine ⟨_, rfl, _, rfl, at_, rfl, a, _, rfl, t.to s3, fun r2 H4 s4 o4 t4 => ?_⟩
        have g4 := g3.trans (Go.of g3.st s4)
        exact cat (H4 := H) g4 (t3.to s4) t4 (ne_or g.st o3 na) (ne_or g3.st o4 na) (nv.cut _ _) (nv.cut _ _) (by decide)
    refine ⟨_, rfl, rfl, _, rfl, ite2 (fun hk => ?_) (fun hk => ?_)⟩
    · refine ⟨_, rfl, a, _, rfl, .inr t.1, fun l nl => ?_⟩
      obtain ⟨zs, rfl, nz, lz⟩ := nv
      have e : (upd H2 l (.lst (zs.map V.str))) l = some (.lst (zs.map V.str)) := upd_same
      exact q _ (.list (zs.map .str)) _ (lv_lotL nz (by omega)) (g.trans (Go.of g.st (same_new nl))) (Da.newL (by rw [hid_ne (g.st.ne_new nl)]; exact e) (DaAll.strs zs))
    refine ⟨_, rfl, rfl, _, rfl, ite2 (fun hk => ?_) (fun hk => ?_)⟩
    · refine ⟨_, rfl, _, rfl, at_, rfl, a, _, rfl, t, fun r1 H3 s3 o3 t3 => ?_⟩
      have g3 := g.trans (Go.of g.st s3)
      refine ⟨_, rfl, _, rfl, _, _, rfl, rfl, at_ + 1, rfl, a, _, rfl, t.to s3, fun r2 H4 s4 o4 t4 => ?_⟩
      have g4 := g3.trans (Go.of g3.st s4)
      exact cat (H4 := H) g4 (t3.to s4) t4 (ne_or g.st o3 na) (ne_or g3.st o4 na) (nv.cut _ _) (nv.cut _ _) (by decide)
    refine ⟨_, rfl, rfl, _, rfl, ite2 (fun hk => ?_) (fun hk => ?_)⟩
    · obtain ⟨y, hy, ey⟩ := nv.at (i := at_) (by omega) (by omega)
      refine ⟨_, rfl, _, rfl, _, rfl, a, _, at_, _, rfl, rfl, t.1, ey, by show 1 ≤ sizeLine; decide, fun p np => ?_⟩
      have s3 := same_new (o := .tup [.str y]) np
      exact cat (H4 := H) (g.trans (Go.of g.st s3)) (t.to s3) .new na (g.st.ne_new np) nv (NmV.one hy) (by decide)
    have mid : ∀ {H3 H5 : Hp} {r1 r2 : Addr} {us : List V} {y : Str} {Q' : VK}, Go D H H3 → TupAt K H3 r1 us → TupAt K H3 r2 [.str y] → r1 ≠ D.p → r2 ≠ D.p → NmV 12 us → isNm y = true → (∀ r H4, Go D H H4 → r ≠ D.p → TupAt K H4 r (us ++ [.str y]) → Q' (.ref r) H4) → rCatD K (.ref r1) (.ref r2) H3 Q' := fun {H3 H5 r1 r2 us y Q'} g3 t1 t2 n1 n2 h1 hy k => by
      have l1 := h1.len
      exact ⟨r1, r2, us, [.str y], rfl, rfl, t1, t2, big _ (by show us.length + 1 ≤ 1000; omega), fun r H4 s o t => k r H4 (g3.trans (Go.of g3.st s)) (ne_or3 g3.st o n1 n2) t⟩
    refine ⟨_, rfl, rfl, _, rfl, ite2 (fun hk => ?_) (fun hk => ?_)⟩
    · obtain ⟨y, hy, ey⟩ := nv.at (i := at_ - 1) (by omega) (by omega)
      refine ⟨_, rfl, _, rfl, at_, rfl, a, _, rfl, t, fun r1 H3 s3 o3 t3 => ?_⟩
      have g3 := g.trans (Go.of g.st s3)
      refine ⟨_, rfl, _, rfl, _, _, rfl, rfl, a, _, at_ - 1, _, rfl, rfl, (t.to s3).1, ey, by show 1 ≤ sizeLine; decide, fun p np => ?_⟩
      have s4 := same_new (o := .tup [.str y]) np
      have g4 := g3.trans (Go.of g3.st s4)
      refine mid (H5 := H) g4 (t3.to s4) .new (ne_or g.st o3 na) (g3.st.ne_new np) (nv.cut _ _) hy fun r5 H5 g5 n5 t5 => ?_
      refine ⟨_, rfl, _, rfl, _, _, rfl, rfl, at_ + 1, rfl, a, _, rfl, ta.go na g5, fun r6 H6 s6 o6 t6 => ?_⟩
      exact cat (H4 := H) (g5.trans (Go.of g5.st s6)) (t5.to s6) t6 n5 (ne_or g5.st o6 na) ((nv.cut none (some at_)).app (NmV.one hy)) (nv.cut _ _) (by decide)
    refine ⟨_, rfl, rfl, _, rfl, ite2 (fun hk => ?_) (fun hk => ?_)⟩
    · refine ⟨_, rfl, _, rfl, at_, rfl, a, _, rfl, t, fun r1 H3 s3 o3 t3 => ?_⟩
      have g3 := g.trans (Go.of g.st s3)
      refine ⟨_, rfl, by show 1 ≤ sizeLine; decide, fun p np => ?_⟩
      have s4 := same_new (o := .tup [.str x]) np
      have g4 := g3.trans (Go.of g3.st s4)
      refine mid (H5 := H) g4 (t3.to s4) .new (ne_or g.st o3 na) (g3.st.ne_new np) (nv.cut _ _) nx fun r5 H5 g5 n5 t5 => ?_
      refine ⟨_, rfl, _, rfl, _, _, rfl, rfl, at_ + 1, rfl, a, _, rfl, ta.go na g5, fun r6 H6 s6 o6 t6 => ?_⟩
      exact cat (H4 := H) (g5.trans (Go.of g5.st s6)) (t5.to s6) t6 n5 (ne_or g5.st o6 na) ((nv.cut none (some at_)).app (NmV.one nx)) (nv.cut _ _) (by decide)
    · obtain ⟨y, hy, ey⟩ := nv.at (i := 0) (by omega) (by omega)
      refine ⟨_, rfl, _, rfl, a, _, 0, _, rfl, rfl, t.1, ey, D, y, rfl, g.st, hy, fun v e H3 le ne g3 re => ?_⟩
      exact q v e H3 le.up (g.trans g3) re
end
end Th
namespace Th
open PySem PySem.Spec PyProof.Rows L2
abbrev s_l_is_name : Stmt := topS 38
theorem sc_l_is_name : FnScope ["_law_value", "_law_sign"] ["_law_value"] (defScope s_l_is_name) := ⟨rfl, rfl, rfl, by decide +kernel, rfl, by decide +kernel, by decide +kernel⟩

section
variable {P : Program} {w : World} {K : PySem.W.Frag} {mg : Str → Option Value} {base : Heap}
theorem has_l_is_name (n : Nat) (Z : Zs mg) (A : At K mg "_law_is_name" s_l_is_name ["_law_value"]) : Has P w K mg base "_law_is_name" s_l_is_name 1 ["_law_value"] (spJ K n nmD) := by
  obtain ⟨f, fd, F, mg1, bd⟩ := A
  refine ⟨f, fd, ?_, mg1, F.kp, bd, F⟩
  refine F.ok sc_l_is_name (fun vs H Q E h => ?_) (fun cdv A outer s H vs Q E hr h => ?_)
  · obtain ⟨v, d, rfl, _⟩ := h
    rfl
  · obtain ⟨v, d, rfl, r, lv, q⟩ := h
    refine ⟨_, (pss_one (ps_ret (pe_and (pe_callB call_isi (by rfl) Z.isinstance_ (by decide +kernel) (pa_cons (pv 0) (pa_cons (pe_bltn (v := .ty "str") (by rfl) Z.str_ (by decide +kernel) rfl) pa_nil))) (pe_and (pe_cmpR op_lt pe_int (pe_callB call_len_str (by rfl) Z.len_ (by decide +kernel) (pa_cons (pv 0) pa_nil)) (nomark _)) (pe_and (pe_cmpR op_lt (pe_callB call_len_str (by rfl) Z.len_ (by decide +kernel) (pa_cons (pv 0) pa_nil)) pe_int (nomark _)) (pe_one (pe_callB (cr_all rfl) (by rfl) Z.all_ (by decide +kernel) (pa_cons (pe_lc (own := [("_law_sign", 1)]) (g := gName 1) (by rfl) sc_l_is_name.nd (pi_str (pv 0)) (blkOk_by (own := [("_law_sign", 1)]) (N := ["_law_value", "_law_sign"]) (sc := defScope s_l_is_name) (by decide +kernel)) (fun _ _ _ _ _ => pg_name (i := 1) sc_l_is_name.nd rfl (Or.inl rfl)) (fun _ _ _ _ _ => pts_nil) (fun _ _ _ _ _ => (pe_cmpR op_in_sign (pv 1) pe_str (by rfl)))) pa_nil)))))))), ?_⟩
    refine ⟨_, rfl, v, _, _, _, _, rfl, .ty "str", r.ty, kit_ty (kit_str d r.nodict), _, rfl, ?_⟩
    cases d with
    | str x =>
      have hv : v = .str x := by
        cases r
        rfl
      subst hv
      have hx : x.length ≤ 100000 := by
        cases n <;> exact lv.1
      refine iteT ?_
      refine ⟨_, rfl, x, rfl, sline hx, _, _, rfl, rfl, _, rfl, ?_⟩
      have fin : ∀ b : Bool, b = isNm x → Q (.bl b) H := fun b e => by
        rw [e]
        exact q H (Same.refl H)
      refine ite2 (fun h1 => ?_) (fun h1 => fin _ ?_)
      · refine ⟨_, rfl, x, rfl, sline hx, _, _, rfl, rfl, _, rfl, ?_⟩
        refine ite2 (fun h2 => ?_) (fun h2 => fin _ ?_)
        · refine ⟨_, rfl, x, rfl, fun L nL => ?_⟩
          refine lc_it (walk_str (z := x)) (fun i H2 => Same H H2 ∧ H2 L = some (.lst (((cs x).take i).map fun c => V.bl (decide (c ∈ cs abc))))) ⟨same_new nL, upd_same⟩ (fun _ _ _ _ => trivial) ?_ ?_
          · rintro i y H2 H3 hi ⟨s2, e2⟩ ⟨rfl, c, hc, rfl⟩
            have hc' : (cs x)[i]? = some c := by
              unfold cs
              rw [Array.getElem?_toList]
              exact hc
            have hl := lt_of_get hc'
            rw [← cs_len] at hl
            refine ⟨rfl, _, rfl, c, abc, rfl, rfl, _, e2, slineL ?_, ?_⟩
            · rw [List.length_map, List.length_take]
              omega
            · refine ⟨same_mut s2 nL, ?_⟩
              rw [upd_same, take_succ_map hc']
              rfl
          · rintro H2 ⟨s2, e2⟩
            have e3 : (cs x).take x.cps.size = cs x := List.take_of_length_le (by rw [← cs_len]; exact Nat.le_refl _)
            rw [e3] at e2
            refine ⟨L, (cs x).map fun c => decide (c ∈ cs abc), rfl, .inl (.inl (by rw [e2, List.map_map]; rfl)), ?_⟩
            have e4 : ((cs x).map fun c => decide (c ∈ cs abc)).all id = isNm x := by
              unfold isNm
              have a1 : decide (1 ≤ x.length) = true := decide_eq_true (by have := of_decide_eq_true h1; omega)
              have a2 : decide (x.length ≤ 6) = true := decide_eq_true (by have := of_decide_eq_true h2; omega)
              rw [a1, a2, List.all_map]
              rfl
            rw [e4]
            exact q H2 s2
        · have a2 : ¬ x.length ≤ 6 := fun z => h2 (decide_eq_true (by omega))
          unfold isNm
          rw [decide_eq_false a2, Bool.and_false, Bool.false_and]
      · have a1 : ¬ 1 ≤ x.length := fun z => h1 (decide_eq_true (by omega))
        unfold isNm
        rw [decide_eq_false a1, Bool.false_and, Bool.false_and]
    | _ => exact iteF (q H (Same.refl H))
end
end Th
namespace Th
open PySem PySem.Spec PyProof.Rows L2
abbrev s_l_is_ring : Stmt := topS 40
theorem sc_l_is_ring : FnScope ["_law_names_here", "_law_value", "_law_name"] ["_law_names_here", "_law_value"] (defScope s_l_is_ring) := ⟨rfl, rfl, rfl, by decide +kernel, rfl, by decide +kernel, by decide +kernel⟩
def spRingL (K : PySem.W.Frag) : Sp := fun vs H Q _ => ∃ (a : Addr) (v : V) (fs : List Str) (d : PyData), vs = [.ref a, v] ∧ SqL K H a (fs.map V.str) ∧ Da K H v d ∧ Lv 4 d ∧ fs.Nodup ∧ (∀ x ∈ fs, isNm x = true) ∧ fs.length ≤ 60 ∧ fs ≠ [] ∧ sortedS fs = true ∧
  ∀ (c : Bool) H', (c = true ↔ RingOrd fs d) → Same H H' → Q (.bl c) H'
theorem perm_of_sub {α : Type} [DecidableEq α] : ∀ {fs zs : List α}, fs.Nodup → (∀ x ∈ fs, x ∈ zs) → zs.length = fs.length → zs.Perm fs
  | [], zs, _, _, l => by
    rw [List.length_eq_zero_iff.mp l]
  | x :: r, zs, n, h, l => by
    obtain ⟨n1, n2⟩ := List.nodup_cons.mp n
    have hx := h x List.mem_cons_self
    have p := List.perm_cons_erase hx
    have q : (zs.erase x).Perm r := perm_of_sub n2 (fun y hy => (List.mem_erase_of_ne (fun e => n1 (by rw [← e]; exact hy))).mpr (h y (List.mem_cons_of_mem _ hy))) (by
      rw [List.length_erase_of_mem hx, l]
      rfl)
    exact p.trans (q.cons x)
section
variable {P : Program} {w : World} {K : PySem.W.Frag} {mg : Str → Option Value} {base : Heap}
theorem has_l_is_ring (Z : Zs mg) (A : At K mg "_law_is_ring" s_l_is_ring ["_law_names_here", "_law_value"]) (h_l_is_name : Has P w K mg base "_law_is_name" s_l_is_name 1 ["_law_value"] (spJ K 3 nmD)) : Has P w K mg base "_law_is_ring" s_l_is_ring 2 ["_law_names_here", "_law_value"] (spRingL K) := by
  obtain ⟨f, fd, F, mg1, bd⟩ := A
  obtain ⟨f_l_is_name, fd_l_is_name, G_l_is_name, m_l_is_name, k_l_is_name, b_l_is_name, F_l_is_name⟩ := h_l_is_name
  refine ⟨f, fd, ?_, mg1, F.kp, bd, F⟩
  refine F.ok sc_l_is_ring (fun vs H Q E h => ?_) (fun cdv A outer s H vs Q E hr h => ?_)
  · obtain ⟨a, v, fs, d, rfl, _⟩ := h
    rfl
  · obtain ⟨a, v, fs, d, rfl, ha, r, lv, ndf, nmf, lf, ne, so, q⟩ := h
    have nd := r.nodict
    refine ⟨_, (pss_cons (ps_if (PW.pt (pw_or (pt_not (pt_val (pe_callB call_isi (by rfl) Z.isinstance_ (by decide +kernel) (pa_cons (pv 1) (pa_cons (pe_bltn (v := .ty "tuple") (by rfl) Z.tuple_ (by decide +kernel) rfl) pa_nil))))) (pw_or (pt_cmpR op_ne (pe_callB call_len_seq (by rfl) Z.len_ (by decide +kernel) (pa_cons (pv 1) pa_nil)) (pe_callB call_len_seq (by rfl) Z.len_ (by decide +kernel) (pa_cons (pv 0) pa_nil)) (nomark _)) (pw_or1 (pt_not (pt_val (pe_callB (cr_all rfl) (by rfl) Z.all_ (by decide +kernel) (pa_cons (pe_lc (own := [("_law_name", 2)]) (g := gName 2) (by rfl) sc_l_is_ring.nd (pi_tup (pv 1)) (blkOk_by (own := [("_law_name", 2)]) (N := ["_law_names_here", "_law_value", "_law_name"]) (sc := defScope s_l_is_ring) (by decide +kernel)) (fun _ _ _ _ _ => pg_name (i := 2) sc_l_is_ring.nd rfl (Or.inl rfl)) (fun _ _ _ _ _ => pts_nil) (fun _ _ _ _ _ => (pe_call G_l_is_name (hr.mono (by decide)) (by rfl) m_l_is_name k_l_is_name b_l_is_name .nil pass0 (pa_cons (pv 2) pa_nil)))) pa_nil)))))))) (pss_one (ps_ret pe_bl)) pss_nil) (pss_one (ps_ret (pe_and (pe_cmpR op_eq (pe_ix ix_tup (pv 1) pe_int (fun _ _ => rfl)) (pe_ix ix_list (pv 0) pe_int (fun _ _ => rfl)) (nomark _)) (pe_one (pe_callB (cr_all rfl) (by rfl) Z.all_ (by decide +kernel) (pa_cons (pe_lc (own := [("_law_name", 2)]) (g := gName 2) (by rfl) sc_l_is_ring.nd (pi_list (pv 0)) (blkOk_by (own := [("_law_name", 2)]) (N := ["_law_names_here", "_law_value", "_law_name"]) (sc := defScope s_l_is_ring) (by decide +kernel)) (fun _ _ _ _ _ => pg_name (i := 2) sc_l_is_ring.nd rfl (Or.inl rfl)) (fun _ _ _ _ _ => pts_nil) (fun _ _ _ _ _ => (pe_cmpR (show OpR _ (compareOp .In) (rIn K false) from op_in_seq) (pv 2) (pv 1) (by rfl)))) pa_nil))))))), ?_⟩
    have no : ∀ d, (∀ ds, d ≠ .tuple ds) → ((false : Bool) = true ↔ RingOrd fs d) := fun d hd => ⟨fun z => (nomatch z), fun ⟨_, _, e, _⟩ => absurd e (hd _)⟩
    refine ⟨_, rfl, v, _, _, _, _, rfl, .ty "tuple", r.ty, kit_ty (kit_tuple d nd), _, rfl, ?_⟩
    cases d with
    | tuple ds =>
      cases r with
      | tup hs ht ra =>
        rename_i b xs
        have hl := ra.len
        have hl2 : ds.length ≤ 60 := lv.1
        refine iteF ?_
        refine ⟨_, rfl, b, xs, rfl, .inr hs, _, rfl, a, _, rfl, .inl ha, rfl, _, rfl, ?_⟩
        have short : ds.length ≠ fs.length → ((false : Bool) = true ↔ RingOrd fs (.tuple ds)) := fun z => ⟨fun z => (nomatch z), fun ⟨x, t, e, p, _⟩ => absurd (by rw [PyData.tuple.inj e, List.length_map, p.length_eq]) z⟩
        refine ite2 (fun h0 => ?_) (fun h0 => ?_)
        · refine q _ H (short fun e => ?_) (Same.refl H)
          have z : decide (V.int ((xs.length : Nat) : Int) = V.int (((fs.map V.str).length : Nat) : Int)) = true := by rw [hl, List.length_map, e]; exact decide_eq_true rfl
          rw [z] at h0
          cases h0
        · have l0 : ds.length = fs.length := by
            have z : decide (V.int ((xs.length : Nat) : Int) = V.int (((fs.map V.str).length : Nat) : Int)) = true := by
              cases h : decide (V.int ((xs.length : Nat) : Int) = V.int (((fs.map V.str).length : Nat) : Int)) with
              | true => rfl
              | false => rw [h] at h0; exact absurd rfl h0
            have z := V.int.inj (of_decide_eq_true z)
            rw [List.length_map, hl] at z
            omega
          refine ⟨_, rfl, b, rfl, ⟨xs, hs⟩, fun L nL => ?_⟩
          refine lc_tup (K := K) (a := b) (xs := xs) (fun i H2 => Same H H2 ∧ H2 L = some (.lst ((ds.take i).map fun d => V.bl (nmD d)))) ⟨same_new nL, upd_same⟩ (fun i H2 _ z => same_t z.1 hs) ?_ ?_
          · rintro i v H2 hi ⟨s2, e2⟩
            obtain ⟨d, hd, rd⟩ := ra.at hi
            refine ⟨rfl, _, rfl, v, d, rfl, rd.to s2, lv_in lv (List.mem_of_getElem? hd), fun H3 s3 => ?_⟩
            refine ⟨_, s3 _ _ e2, slineL (by rw [List.length_map, List.length_take]; omega), same_mut (s2.trans s3) nL, ?_⟩
            rw [upd_same, take_succ_map hd]
          · rintro H1 ⟨s1, e2⟩
            rw [hl, List.take_length] at e2
            refine ⟨L, ds.map nmD, rfl, .inl (.inl (by rw [e2, List.map_map]; rfl)), _, rfl, ?_⟩
            rw [show (ds.map nmD).all id = ds.all nmD by rw [List.all_map]; rfl]
            cases hn : ds.all nmD with
            | false =>
              refine iteT (q _ H1 ⟨fun z => (nomatch z), fun z => ?_⟩ s1)
              have w := ord_all (z.ord nmf)
              rw [w] at hn
              cases hn
            | true =>
              refine iteF ?_
              have es := nms_strs hn
              generalize hx : ds.map strD = zs at es
              have ra' : DaAll K H xs (zs.map .str) := by rw [← es]; exact ra
              have exs := ra'.isStrs
              subst exs
              have lz : zs.length = fs.length := by rw [← hx, List.length_map, l0]
              have shape : ∀ c : Bool, (c = true ↔ zs.head? = fs.head? ∧ ∀ x ∈ fs, x ∈ zs) → (c = true ↔ RingOrd fs (.tuple ds)) := fun c hc => by
                rw [hc, es]
                constructor
                · rintro ⟨e, sub⟩
                  have pm := perm_of_sub ndf sub lz
                  cases fs with
                  | nil => exact absurd rfl ne
                  | cons y t =>
                    cases zs with
                    | nil => cases lz
                    | cons x r =>
                      have ex : x = y := Option.some.inj e
                      subst ex
                      refine ⟨x, r, rfl, pm, fun z hz => ?_⟩
                      rcases List.mem_cons.mp hz with w | m
                      · rw [w]
                        exact Std.lt_irrefl
                      · exact (List.pairwise_cons.mp (sorted_pair so)).1 z m
                · rintro ⟨x, r, e, pm, le⟩
                  have ez := strs_inj (PyData.tuple.inj e)
                  subst ez
                  refine ⟨?_, fun z hz => pm.mem_iff.mpr hz⟩
                  cases fs with
                  | nil => exact absurd rfl ne
                  | cons y t =>
                    show some x = some y
                    rcases List.mem_cons.mp (pm.mem_iff.mp (List.mem_cons_self (a := x) (l := r))) with w | m
                    · rw [w]
                    · exact congrArg some (leS_anti (le y List.mem_cons_self) ((List.pairwise_cons.mp (sorted_pair so)).1 x m))
              cases zs with
              | nil => exact absurd (List.length_eq_zero_iff.mp lz.symm) ne
              | cons x r =>
                cases fs with
                | nil => exact absurd rfl ne
                | cons y t =>
                  refine ⟨_, rfl, b, _, 0, _, rfl, rfl, same_t s1 hs, atI_of (by decide) rfl, _, rfl, a, _, 0, _, rfl, rfl, s1.seq ha, atI_of (by decide) rfl, rfl, _, rfl, ?_⟩
                  refine ite2 (fun k => ?_) (fun k => ?_)
                  · have k' : x = y := V.str.inj (of_decide_eq_true k)
                    refine ⟨_, rfl, a, rfl, ⟨_, s1.seq ha⟩, fun M nM => ?_⟩
                    refine lc_list (K := K) (a := a) (xs := (y :: t).map V.str) (fun i H2 => Same H1 H2 ∧ H2 M = some (.lst (((y :: t).take i).map fun z => V.bl (decide (z ∈ x :: r))))) ⟨same_new nM, upd_same⟩ (fun i H2 _ z => (s1.trans z.1).seq ha) ?_ ?_
                    · rintro i v H2 hi ⟨s2, e3⟩
                      obtain ⟨z, hz, rfl⟩ := getmap hi
                      have hzl := lt_of_get hz
                      refine ⟨rfl, _, rfl, _, rfl, b, _, rfl, .inr (same_t (s1.trans s2) hs), rfl, flatS (x :: r), ?_⟩
                      rw [inS]
                      refine ⟨_, e3, slineL (by rw [List.length_map, List.length_take]; omega), same_mut s2 nM, ?_⟩
                      rw [upd_same, take_succ_map hz]
                      rfl
                    · rintro H2 ⟨s2, e3⟩
                      rw [List.length_map, List.take_length] at e3
                      refine ⟨M, (y :: t).map fun z => decide (z ∈ x :: r), rfl, .inl (.inl (by rw [e3, List.map_map]; rfl)), ?_⟩
                      refine q _ H2 (shape _ ?_) (s1.trans s2)
                      rw [List.all_map, List.all_eq_true, k']
                      exact ⟨fun h => ⟨rfl, fun z hz => of_decide_eq_true (h z hz)⟩, fun h z hz => decide_eq_true (h.2 z hz)⟩
                  · refine q _ H1 (shape _ ⟨fun z => (nomatch z), fun z => absurd (decide_eq_true ?_) k⟩) s1
                    rw [show x = y from Option.some.inj z.1]
    | _ => exact iteT (q _ H (no _ (fun ds z => by cases z)) (Same.refl H))
end
end Th
namespace Th
open PySem PySem.Spec PyProof.Rows L2
abbrev s_l_some_lots : Stmt := topS 31
theorem sc_l_some_lots : FnScope ["_law_bag_here", "_law_many", "_law_most", "_law_k"] ["_law_bag_here", "_law_many", "_law_most"] (defScope s_l_some_lots) := ⟨rfl, rfl, rfl, by decide +kernel, rfl, by decide +kernel, by decide +kernel⟩
/-- bits of some lots -/
def spSomeLots : Sp := fun vs H Q _ => ∃ (D : DS) (n m : Nat), vs = [.ref D.p, .int (n : Int), .int (m : Int)] ∧ Drw D H ∧ 1 ≤ n ∧ n ≤ 12 ∧ m ≤ 60 ∧ ∀ r (bs : List Nat) H', (∀ b ∈ bs, 0 < b ∧ b < 2 ^ n) → bs.length ≤ 63 → Go D H H' → H r = none → H' r = some (.lst (bs.map fun b => V.int (b : Nat))) → Q (.ref r) H'
section
variable {P : Program} {w : World} {K : PySem.W.Frag} {mg : Str → Option Value} {base : Heap}
theorem has_l_some_lots (Z : Zs mg) (A : At K mg "_law_some_lots" s_l_some_lots ["_law_bag_here", "_law_many", "_law_most"]) (h_l_draw : Has P w K mg base "_law_draw" s_l_draw 1 ["_law_bag_here", "_law_many"] (spDraw)) (h_l_lex : Has P w K mg base "_law_lex" s_l_lex 1 ["_law_many"] (spLex)) : Has P w K mg base "_law_some_lots" s_l_some_lots 2 ["_law_bag_here", "_law_many", "_law_most"] (spSomeLots) := by
  obtain ⟨f, fd, F, mg1, bd⟩ := A
  obtain ⟨f_l_draw, fd_l_draw, G_l_draw, m_l_draw, k_l_draw, b_l_draw, F_l_draw⟩ := h_l_draw
  obtain ⟨f_l_lex, fd_l_lex, G_l_lex, m_l_lex, k_l_lex, b_l_lex, F_l_lex⟩ := h_l_lex
  refine ⟨f, fd, ?_, mg1, F.kp, bd, F⟩
  refine F.ok sc_l_some_lots (fun vs H Q E h => ?_) (fun cdv A outer s H vs Q E hr h => ?_)
  · obtain ⟨D, n, m, rfl, _⟩ := h
    rfl
  · obtain ⟨D, n, m, rfl, d, n1, n2, m1, q⟩ := h
    refine ⟨_, (pss_cons (ps_if (pt_cmpR op_le (pv 1) pe_int (nomark _)) (pss_one (ps_ret (pe_call G_l_lex (hr.mono (by decide)) (by rfl) m_l_lex k_l_lex b_l_lex .nil pass0 (pa_cons (pv 1) pa_nil)))) pss_nil) (pss_one (ps_ret (pe_lc (own := [("_law_k", 3)]) (g := gName 3) (by rfl) sc_l_some_lots.nd (pi_range1 (by rfl) Z.range_ (pa_cons (pv 2) pa_nil)) (blkOk_by (own := [("_law_k", 3)]) (N := ["_law_bag_here", "_law_many", "_law_most", "_law_k"]) (sc := defScope s_l_some_lots) (by decide +kernel)) (fun _ _ _ _ _ => pg_name (i := 3) sc_l_some_lots.nd rfl (Or.inl rfl)) (fun _ _ _ _ _ => pts_nil) (fun _ _ _ _ _ => (pe_op op_add pe_int (pe_call G_l_draw (hr.mono (by decide)) (by rfl) m_l_draw k_l_draw b_l_draw .nil pass0 (pa_cons (pv 0) (pa_cons (pe_op op_sub (pe_op op_oneShl pe_int (pv 1)) pe_int) pa_nil))))))))), ?_⟩
    refine ⟨_, rfl, _, _, rfl, rfl, _, rfl, ite2 (fun h6 => ?_) (fun h6 => ?_)⟩
    · have h6' : (n : Int) ≤ 6 := of_decide_eq_true h6
      exact ⟨_, rfl, n, rfl, by omega, fun r bs H' hb lb s nr er => q r bs H' hb lb (Go.of d s) nr er⟩
    · refine ⟨_, rfl, _, rfl, by omega, by omega, fun L nL => ?_⟩
      have nLp := d.ne_new nL
      refine lc_range (lo := 0) (n := (m : Int).toNat) (fun i H2 => Go D H H2 ∧ ∃ bs : List Nat, bs.length = i ∧ (∀ b ∈ bs, 0 < b ∧ b < 2 ^ n) ∧ H2 L = some (.lst (bs.map fun b => V.int (b : Nat))))
        ⟨(Go.refl d).new nL, [], rfl, (fun _ z => nomatch z), upd_same⟩ ?_ ?_
      · rintro i H2 hi ⟨g2, bs, lb, hb, e2⟩
        have bit : (2 : Int) ^ n = ((2 ^ n : Nat) : Int) := by rw [Int.natCast_pow]; rfl
        have b1 : 2 ^ 1 ≤ 2 ^ n := Nat.pow_le_pow_right (by decide) n1
        have b2 : 2 ^ n ≤ 2 ^ 12 := Nat.pow_le_pow_right (by decide) n2
        refine ⟨rfl, _, rfl, _, rfl, n, rfl, rfl, by omega, ?_⟩
        rw [bit]
        generalize 2 ^ n = t at b1 b2 hb ⊢
        refine ⟨_, _, rfl, rfl, D, _, rfl, g2.st, by omega, by omega, fun r H3 r0 r1 g3 => ⟨_, _, rfl, rfl, ?_⟩⟩
        refine ⟨_, g3.old nLp e2, slineL (by rw [List.length_map]; omega), (g2.trans g3).mut d nL, bs ++ [(1 + r).toNat], by rw [List.length_append, lb]; rfl, fun b hbm => ?_, ?_⟩
        · rcases List.mem_append.mp hbm with z | z
          · exact hb b z
          · rw [List.mem_singleton.mp z]
            omega
        · rw [upd_same, List.map_append]
          show some (HO.lst (_ ++ [V.int (1 + r)])) = some (HO.lst (_ ++ [V.int (((1 + r).toNat : Nat) : Int)]))
          rw [Int.toNat_of_nonneg (by omega)]
      · rintro H2 ⟨g2, bs, lb, hb, e2⟩
        exact q L bs H2 hb (by omega) g2 nL e2
end
end Th
namespace Th
open PySem PySem.Spec PyProof.Rows L2
abbrev s_p_rest : Stmt := topS 12
theorem sc_p_rest : FnScope ["one", "other", "name"] ["one", "other"] (defScope s_p_rest) := ⟨rfl, rfl, rfl, by decide +kernel, rfl, by decide +kernel, by decide +kernel⟩
/-- the names of an order that a lot has, in a new tuple -/
def spCut (K : PySem.W.Frag) : Sp := fun vs H Q _ => ∃ (a b : Addr) (xs zs : List Str), vs = [.ref a, .ref b] ∧ SqT K H a (xs.map V.str) ∧ SqT K H b (zs.map V.str) ∧ xs.length ≤ 60 ∧
  ∀ r H', Same H H' → H r = none → H' r = some (.tup ((xs.filter fun x => decide (x ∈ zs)).map V.str)) → Q (.ref r) H'
theorem filter_step {p : Str → Bool} {xs : List Str} {i : Nat} {x : Str} (h : xs[i]? = some x) : (xs.take (i + 1)).filter p = (xs.take i).filter p ++ (if p x = true then [x] else []) := by
  rw [List.take_add_one, h, List.filter_append]
  cases hp : p x <;> simp [hp]
theorem filter_short {p : Str → Bool} {xs : List Str} {i n : Nat} (h : xs.length ≤ n) : (((xs.take i).filter p).map V.str).length ≤ n := by
  rw [List.length_map]
  have a := List.length_filter_le p (xs.take i)
  rw [List.length_take] at a
  omega

/-- the names of a lot that another lacks, in a new tuple -/
def spRest (K : PySem.W.Frag) : Sp := fun vs H Q _ => ∃ (a b : Addr) (xs zs : List Str), vs = [.ref a, .ref b] ∧ SqT K H a (xs.map V.str) ∧ SqT K H b (zs.map V.str) ∧ xs.length ≤ 60 ∧
  ∀ r H', Same H H' → H r = none → H' r = some (.tup ((xs.filter fun x => !decide (x ∈ zs)).map V.str)) → Q (.ref r) H'
section
variable {P : Program} {w : World} {K : PySem.W.Frag} {mg : Str → Option Value} {base : Heap}
theorem has_p_rest (Z : Zs mg) (A : At K mg "rest" s_p_rest ["one", "other"]) : Has P w K mg base "rest" s_p_rest 1 ["one", "other"] (spRest K) := by
  obtain ⟨f, fd, F, mg1, bd⟩ := A
  refine ⟨f, fd, ?_, mg1, F.kp, bd, F⟩
  refine F.ok sc_p_rest (fun vs H Q E h => ?_) (fun cdv A outer s H vs Q E hr h => ?_)
  · obtain ⟨a, b, xs, zs, rfl, _⟩ := h
    rfl
  · obtain ⟨a, b, xs, zs, rfl, ha, hb, hl, q⟩ := h
    refine ⟨_, (pss_one (ps_ret (pe_callTy call_tuple_of (by rfl) Z.tuple_ (by decide +kernel) (pa_cons (pe_lc (own := [("name", 2)]) (g := gName 2) (by rfl) sc_p_rest.nd (pi_tup (pv 0)) (blkOk_by (own := [("name", 2)]) (N := ["one", "other", "name"]) (sc := defScope s_p_rest) (by decide +kernel)) (fun _ _ _ _ _ => pg_name (i := 2) sc_p_rest.nd rfl (Or.inl rfl)) (fun _ _ _ _ _ => (pts_one (pt_cmpR (show OpR _ (compareOp .NotIn) (rIn K true) from op_notIn_seq) (pv 2) (pv 1) (by rfl)))) (fun _ _ _ _ _ => (pv 2))) pa_nil)))), ?_⟩
    refine ⟨_, rfl, a, rfl, ⟨_, ha⟩, fun L nL => ?_⟩
    refine lc_tup (K := K) (a := a) (xs := xs.map V.str) (fun i H2 => Same H H2 ∧ H2 L = some (.lst (((xs.take i).filter fun x => !decide (x ∈ zs)).map V.str))) ⟨same_new nL, upd_same⟩ (fun i H2 _ z => same_t z.1 ha) ?_ ?_
    · rintro i y H2 hi ⟨s2, e2⟩
      obtain ⟨x, hx, rfl⟩ := getmap hi
      refine ⟨rfl, _, rfl, _, rfl, b, _, rfl, .inr (same_t s2 hb), rfl, flatS zs, _, rfl, ?_⟩
      rw [inS]
      have step := filter_step (p := fun x => !decide (x ∈ zs)) hx
      refine ite2 (fun hm => ?_) (fun hm => ?_)
      · refine ⟨_, rfl, _, e2, slineL (by have := filter_short (p := fun x => !decide (x ∈ zs)) (i := i) hl; omega), same_mut s2 nL, ?_⟩
        rw [upd_same, step, if_pos (by simpa using hm), List.map_append]
        rfl
      · exact ⟨s2, by rw [e2, step, if_neg (by simpa using hm), List.append_nil]⟩
    · rintro H2 ⟨s2, e2⟩
      rw [List.length_map, List.take_length] at e2
      refine ⟨L, _, rfl, .inl ⟨.inl (.inl e2), fun r nr => ?_⟩⟩
      exact q r _ (s2.trans (same_new nr)) (s2.free nr) upd_same
end
end Th
namespace Th
open PySem PySem.Spec PyProof.Rows L2
abbrev s_p_gaps_of : Stmt := topS 17
theorem sc_p_gaps_of : FnScope ["order", "lot", "places", "name"] ["order", "lot"] (defScope s_p_gaps_of) := ⟨rfl, rfl, rfl, by decide +kernel, rfl, by decide +kernel, by decide +kernel⟩
/-- the names of an order between the first and the last of a lot that the lot lacks -/
def IsGaps (xs zs gs : List Str) : Prop := ∃ lo hi : Nat, (∃ z, z ∈ zs ∧ xs[lo]? = some z) ∧ (∃ z, z ∈ zs ∧ xs[hi]? = some z) ∧ (∀ (k : Nat) z, z ∈ zs → xs[k]? = some z → lo ≤ k ∧ k ≤ hi) ∧ gs = ((xs.take hi).drop lo).filter fun x => !decide (x ∈ zs)
theorem IsGaps.one {xs zs g g' : List Str} (h : IsGaps xs zs g) (h' : IsGaps xs zs g') : g = g' := by
  obtain ⟨lo, hi, ⟨z1, m1, e1⟩, ⟨z2, m2, e2⟩, b, rfl⟩ := h
  obtain ⟨lo', hi', ⟨z3, m3, e3⟩, ⟨z4, m4, e4⟩, b', rfl⟩ := h'
  have a1 := b' lo z1 m1 e1
  have a2 := b lo' z3 m3 e3
  have a3 := b' hi z2 m2 e2
  have a4 := b hi' z4 m4 e4
  rw [show lo = lo' by omega, show hi = hi' by omega]
theorem cutBoth (xs : List Str) {lo hi : Nat} (h : lo ≤ hi) (k : hi ≤ xs.length) : cutV (xs.map V.str) (some (lo : Int)) (some (hi : Int)) = ((xs.take hi).drop lo).map V.str := by
  unfold cutV
  rw [show HT.sIx (xs.map V.str).length 0 (some (lo : Int)) = min lo (xs.map V.str).length from HT.sIx_nat _ 0 lo, show HT.sIx (xs.map V.str).length (xs.map V.str).length (some (hi : Int)) = min hi (xs.map V.str).length from HT.sIx_nat _ _ hi,
    List.length_map, show min lo xs.length = lo by omega, Nat.min_eq_left k, ← List.map_drop, ← List.map_take, List.drop_take]
/-- an order, a lot of its names -/
def spGaps (K : PySem.W.Frag) : Sp := fun vs H Q _ => ∃ (a b : Addr) (xs zs : List Str), vs = [.ref a, .ref b] ∧ BareT H a (xs.map V.str) ∧ SqT K H b (zs.map V.str) ∧ xs.Nodup ∧ (∀ z ∈ zs, z ∈ xs) ∧ zs ≠ [] ∧ xs.length ≤ 60 ∧ zs.length ≤ 60 ∧
  ∀ r gs H', IsGaps xs zs gs → Same H H' → H r = none → H' r = some (.lst (gs.map V.str)) → Q (.ref r) H'
theorem placeOf {xs : List Str} (nd : xs.Nodup) {x : Str} (h : x ∈ xs) : ∃ i : Nat, xs[i]? = some x ∧ (∀ m, m < i → xs[m]? ≠ some x) ∧ (∀ m, xs[m]? = some x → m = i) := by
  obtain ⟨i, hi⟩ := List.getElem?_of_mem h
  have one : ∀ m, xs[m]? = some x → m = i := fun m hm => by
    obtain ⟨a, ha⟩ := List.getElem?_eq_some_iff.mp hm
    obtain ⟨b, hb⟩ := List.getElem?_eq_some_iff.mp hi
    exact (List.getElem_inj nd).mp (ha.trans hb.symm)
  exact ⟨i, hi, fun m hm e => by have := one m e; omega, one⟩
theorem places_all {xs : List Str} (nd : xs.Nodup) : ∀ zs : List Str, (∀ z ∈ zs, z ∈ xs) → ∃ ks : List Nat, ks.length = zs.length ∧ ∀ (i : Nat) z, zs[i]? = some z → ∃ k, ks[i]? = some k ∧ xs[k]? = some z ∧ (∀ m, m < k → xs[m]? ≠ some z) ∧ ∀ m, xs[m]? = some z → m = k
  | [], _ => ⟨[], rfl, fun i z h => nomatch h⟩
  | z :: r, h => by
    obtain ⟨ks, l, a⟩ := places_all nd r fun x hx => h x (List.mem_cons_of_mem _ hx)
    obtain ⟨k, e, n, o⟩ := placeOf nd (h z List.mem_cons_self)
    refine ⟨k :: ks, by rw [List.length_cons, List.length_cons, l], fun i y hy => ?_⟩
    cases i with
    | zero => cases hy; exact ⟨k, rfl, e, n, o⟩
    | succ i => exact a i y hy
section
variable {P : Program} {w : World} {K : PySem.W.Frag} {mg : Str → Option Value} {base : Heap}
theorem has_p_gaps_of (Z : Zs mg) (A : At K mg "gaps_of" s_p_gaps_of ["order", "lot"]) : Has P w K mg base "gaps_of" s_p_gaps_of 1 ["order", "lot"] (spGaps K) := by
  obtain ⟨f, fd, F, mg1, bd⟩ := A
  refine ⟨f, fd, ?_, mg1, F.kp, bd, F⟩
  refine F.ok sc_p_gaps_of (fun vs H Q E h => ?_) (fun cdv A outer s H vs Q E hr h => ?_)
  · obtain ⟨a, b, xs, zs, rfl, _⟩ := h
    rfl
  · obtain ⟨a, b, xs, zs, rfl, hA, hb, nd, sub, hne, hl, hlz, q⟩ := h
    refine ⟨_, (pss_cons (ps_setLc (i := 2) (own := [("name", 3)]) (g := gName 3) (by rfl) sc_p_gaps_of.nd rfl rfl (sw_true rfl rfl rfl (by decide +kernel)) (pi_tup (pv 1)) (blkOk_by (own := [("name", 3)]) (N := ["order", "lot", "places", "name"]) (sc := defScope s_p_gaps_of) (by decide +kernel)) (fun _ _ _ _ _ => pg_name (i := 3) sc_p_gaps_of.nd rfl (Or.inl rfl)) (fun _ _ _ _ _ => pts_nil) (fun _ _ _ _ _ => (pe_mG ty_bare PySem.F.plainAttrs_tuple PySem.F.slot_tuple_index PySem.F.type_tuple_index (show MtR _ "tuple.index" (rTupIx K) from mt_tupIx) (pv 0) (pa_cons (pv 3) pa_nil)))) (pss_one (ps_ret (pe_lc (own := [("name", 3)]) (g := gName 3) (by rfl) sc_p_gaps_of.nd (pi_tup (pe_slice sl_tup (pv 0) (po_some (pe_callB (cr_min rfl) (by rfl) Z.min_ (by decide +kernel) (pa_cons (pv 2) pa_nil))) (po_some (pe_callB (cr_max rfl) (by rfl) Z.max_ (by decide +kernel) (pa_cons (pv 2) pa_nil))))) (blkOk_by (own := [("name", 3)]) (N := ["order", "lot", "places", "name"]) (sc := defScope s_p_gaps_of) (by decide +kernel)) (fun _ _ _ _ _ => pg_name (i := 3) sc_p_gaps_of.nd rfl (Or.inl rfl)) (fun _ _ _ _ _ => (pts_one (pt_cmpR (show OpR _ (compareOp .NotIn) (rIn K true) from op_notIn_seq) (pv 3) (pv 1) (by rfl)))) (fun _ _ _ _ _ => (pv 3)))))), ?_⟩
    have ha : SqT K H a (xs.map V.str) := hA.sq
    obtain ⟨ks, lk, hk⟩ := places_all nd zs sub
    have kz : ∀ k : Nat, k ∈ ks → ∃ z, z ∈ zs ∧ xs[k]? = some z := fun k m => by
      obtain ⟨i, hi⟩ := List.getElem?_of_mem m
      obtain ⟨z, hz⟩ : ∃ z, zs[i]? = some z := ⟨_, List.getElem?_eq_getElem (by rw [← lk]; exact lt_of_get hi)⟩
      obtain ⟨k', e1, e2, _⟩ := hk i z hz
      rw [hi] at e1
      cases e1
      exact ⟨z, List.mem_of_getElem? hz, e2⟩
    have zk : ∀ (k : Nat) z, z ∈ zs → xs[k]? = some z → k ∈ ks := fun k z m e => by
      obtain ⟨i, hi⟩ := List.getElem?_of_mem m
      obtain ⟨k', e1, e2, _, o⟩ := hk i z hi
      rw [o k e]
      exact List.mem_of_getElem? e1
    -- the places
    refine ⟨_, rfl, b, rfl, ⟨_, hb⟩, fun L nL => ?_⟩
    refine lc_tup (K := K) (a := b) (xs := zs.map V.str) (fun i H2 => Same H H2 ∧ H2 L = some (.lst ((ks.take i).map fun (k : Nat) => V.int (k : Int)))) ⟨same_new nL, upd_same⟩ (fun i H2 _ z => same_t z.1 hb) ?_ ?_
    · rintro i y H2 hi ⟨s2, e2⟩
      obtain ⟨z, hz, rfl⟩ := getmap hi
      obtain ⟨k, hk1, hk2, hk3, _⟩ := hk i z hz
      refine ⟨rfl, _, rfl, ⟨a, _, rfl, hA.to s2⟩, _, rfl, a, xs, z, k, rfl, rfl, same_t s2 ha, hk2, hk3, _, e2, slineL (by rw [List.length_map, List.length_take]; omega), same_mut s2 nL, ?_⟩
      rw [upd_same, take_succ_map hk1]
    rintro H2 ⟨s2, e2⟩
    rw [List.length_map, ← lk, List.take_length] at e2
    have e3 : H2 L = some (.lst ((ks.map fun (k : Nat) => (k : Int)).map V.int)) := by rw [e2, List.map_map]; rfl
    have lpos : 0 < (ks.map fun (k : Nat) => (k : Int)).length := by
      rw [List.length_map, lk]
      exact List.length_pos_iff.mpr hne
    -- from the first to the last of them
    refine ⟨_, rfl, _, rfl, L, _, rfl, .inl (.inl e3), lpos, fun m hm hle => ⟨m, rfl, ?_⟩⟩
    refine ⟨_, rfl, L, _, rfl, .inl (.inl e3), lpos, fun M hM hge => ⟨M, rfl, ?_⟩⟩
    obtain ⟨lo, hlo, rfl⟩ := List.mem_map.mp hm
    obtain ⟨hi, hhi, rfl⟩ := List.mem_map.mp hM
    obtain ⟨z1, m1, e1⟩ := kz lo hlo
    obtain ⟨z2, m2, e2'⟩ := kz hi hhi
    have bd : ∀ (k : Nat) z, z ∈ zs → xs[k]? = some z → lo ≤ k ∧ k ≤ hi := fun k z m e => by
      have mk : (k : Int) ∈ ks.map fun (k : Nat) => (k : Int) := List.mem_map.mpr ⟨k, zk k z m e, rfl⟩
      have a1 := hle _ mk
      have a2 := hge _ mk
      omega
    have lhi := lt_of_get e2'
    have llo : lo ≤ hi := (bd hi z2 m2 e2').1
    refine ⟨a, _, rfl, same_t s2 ha, ?_, fun p np => ?_⟩
    · rw [show HT.sIx (xs.map V.str).length (xs.map V.str).length (some (hi : Int)) = min hi (xs.map V.str).length from HT.sIx_nat _ _ hi, List.length_map]
      omega
    rw [cutBoth xs llo (by omega)]
    have s3 := s2.trans (same_new (o := .tup (((xs.take hi).drop lo).map V.str)) np)
    have ep : (upd H2 p (.tup (((xs.take hi).drop lo).map V.str))) p = some (.tup (((xs.take hi).drop lo).map V.str)) := upd_same
    generalize upd H2 p (.tup (((xs.take hi).drop lo).map V.str)) = H3 at s3 ep ⊢
    have lp : ((xs.take hi).drop lo).length ≤ 60 := by
      rw [List.length_drop, List.length_take]
      omega
    have gp : IsGaps xs zs (((xs.take hi).drop lo).filter fun x => !decide (x ∈ zs)) := ⟨lo, hi, ⟨z1, m1, e1⟩, ⟨z2, m2, e2'⟩, bd, rfl⟩
    generalize (xs.take hi).drop lo = ms at ep lp gp
    refine ⟨p, rfl, ⟨_, .inl (.inl ep)⟩, fun R nR => ?_⟩
    refine lc_tup (K := K) (a := p) (xs := ms.map V.str) (fun i H4 => Same H3 H4 ∧ H4 R = some (.lst (((ms.take i).filter fun x => !decide (x ∈ zs)).map V.str))) ⟨same_new nR, upd_same⟩ (fun i H4 _ z => .inl (.inl (z.1 _ _ ep))) ?_ ?_
    · rintro i y H4 hi' ⟨s4, e4⟩
      obtain ⟨x, hx, rfl⟩ := getmap hi'
      refine ⟨rfl, _, rfl, _, rfl, b, _, rfl, .inr (same_t (s3.trans s4) hb), rfl, flatS zs, _, rfl, ?_⟩
      rw [inS]
      have step := filter_step (p := fun x => !decide (x ∈ zs)) hx
      refine ite2 (fun hm => ?_) (fun hm => ?_)
      · have hm' : x ∉ zs := by simpa using hm
        refine ⟨_, rfl, _, e4, slineL (by have := filter_short (p := fun x => !decide (x ∈ zs)) (i := i) lp; omega), same_mut s4 nR, ?_⟩
        rw [upd_same, step, if_pos (by simpa using hm'), List.map_append]
        rfl
      · have hm' : x ∈ zs := by simpa using hm
        exact ⟨s4, by rw [e4, step, if_neg (by simpa using hm'), List.append_nil]⟩
    · rintro H4 ⟨s4, e4⟩
      rw [List.length_map, List.take_length] at e4
      exact q R _ _ gp (s3.trans s4) (s3.free nR) e4
end
end Th
namespace Th
open PySem PySem.Spec PyProof.Rows L2
abbrev s_p_keeps : Stmt := topS 16
theorem sc_p_keeps : FnScope ["order", "lot"] ["order", "lot"] (defScope s_p_keeps) := ⟨rfl, rfl, rfl, by decide +kernel, rfl, by decide +kernel, by decide +kernel⟩
/-- whether nothing stands between -/
def spKeeps (K : PySem.W.Frag) : Sp := fun vs H Q _ => ∃ (a b : Addr) (xs zs : List Str), vs = [.ref a, .ref b] ∧ BareT H a (xs.map V.str) ∧ SqT K H b (zs.map V.str) ∧ xs.Nodup ∧ (∀ z ∈ zs, z ∈ xs) ∧ zs ≠ [] ∧ xs.length ≤ 60 ∧ zs.length ≤ 60 ∧
  ∀ gs H', IsGaps xs zs gs → Same H H' → Q (.bl (decide (gs = []))) H'
section
variable {P : Program} {w : World} {K : PySem.W.Frag} {mg : Str → Option Value} {base : Heap}
theorem has_p_keeps (Z : Zs mg) (A : At K mg "keeps" s_p_keeps ["order", "lot"]) (h_p_gaps_of : Has P w K mg base "gaps_of" s_p_gaps_of 1 ["order", "lot"] (spGaps K)) : Has P w K mg base "keeps" s_p_keeps 2 ["order", "lot"] (spKeeps K) := by
  obtain ⟨f, fd, F, mg1, bd⟩ := A
  obtain ⟨f_p_gaps_of, fd_p_gaps_of, G_p_gaps_of, m_p_gaps_of, k_p_gaps_of, b_p_gaps_of, F_p_gaps_of⟩ := h_p_gaps_of
  refine ⟨f, fd, ?_, mg1, F.kp, bd, F⟩
  refine F.ok sc_p_keeps (fun vs H Q E h => ?_) (fun cdv A outer s H vs Q E hr h => ?_)
  · obtain ⟨a, b, xs, zs, rfl, _⟩ := h
    rfl
  · obtain ⟨a, b, xs, zs, rfl, hA, hb, nd, sub, hne, hl, hlz, q⟩ := h
    refine ⟨_, (pss_one (ps_ret (pe_cmpR op_eq (pe_callB call_len_seq (by rfl) Z.len_ (by decide +kernel) (pa_cons (pe_call G_p_gaps_of (hr.mono (by decide)) (by rfl) m_p_gaps_of k_p_gaps_of b_p_gaps_of .nil pass0 (pa_cons (pv 0) (pa_cons (pv 1) pa_nil))) pa_nil)) pe_int (nomark _)))), ?_⟩
    refine ⟨_, rfl, _, rfl, a, b, xs, zs, rfl, hA, hb, nd, sub, hne, hl, hlz, fun r gs H' hg s nr er => ?_⟩
    refine ⟨r, _, rfl, .inl (.inl (.inl er)), rfl, ?_⟩
    have e : decide (V.int (((gs.map V.str).length : Nat) : Int) = V.int 0) = decide (gs = []) := by
      rw [List.length_map]
      cases gs with
      | nil => rfl
      | cons x r =>
        rw [decide_eq_false (List.cons_ne_nil _ _)]
        exact decide_eq_false fun z => by
          have := V.int.inj z
          rw [List.length_cons] at this
          omega
    rw [e]
    exact q gs _ hg s
end
end Th
namespace Th
open PySem PySem.Spec PyProof.Rows L2
abbrev s_p_is_arc : Stmt := topS 20
theorem sc_p_is_arc : FnScope ["order", "lot", "others"] ["order", "lot"] (defScope s_p_is_arc) := ⟨rfl, rfl, rfl, by decide +kernel, rfl, by decide +kernel, by decide +kernel⟩
/-- whether a lot stands together on a ring -/
def ArcB (xs zs : List Str) (c : Bool) : Prop := (xs.filter (fun x => !decide (x ∈ zs)) = [] ∧ c = true) ∨
  (xs.filter (fun x => !decide (x ∈ zs)) ≠ [] ∧ ∀ gs hs, IsGaps xs zs gs → IsGaps xs (xs.filter fun x => !decide (x ∈ zs)) hs → c = (decide (gs = []) || decide (hs = [])))
def spArc (K : PySem.W.Frag) : Sp := fun vs H Q _ => ∃ (a b : Addr) (xs zs : List Str), vs = [.ref a, .ref b] ∧ BareT H a (xs.map V.str) ∧ SqT K H b (zs.map V.str) ∧ xs.Nodup ∧ (∀ z ∈ zs, z ∈ xs) ∧ zs ≠ [] ∧ xs.length ≤ 60 ∧ zs.length ≤ 60 ∧
  ∀ c H', ArcB xs zs c → Same H H' → Q (.bl c) H'
section
variable {P : Program} {w : World} {K : PySem.W.Frag} {mg : Str → Option Value} {base : Heap}
theorem has_p_is_arc (Z : Zs mg) (A : At K mg "is_arc" s_p_is_arc ["order", "lot"]) (h_p_rest : Has P w K mg base "rest" s_p_rest 1 ["one", "other"] (spRest K)) (h_p_keeps : Has P w K mg base "keeps" s_p_keeps 2 ["order", "lot"] (spKeeps K)) : Has P w K mg base "is_arc" s_p_is_arc 9 ["order", "lot"] (spArc K) := by
  obtain ⟨f, fd, F, mg1, bd⟩ := A
  obtain ⟨f_p_rest, fd_p_rest, G_p_rest, m_p_rest, k_p_rest, b_p_rest, F_p_rest⟩ := h_p_rest
  obtain ⟨f_p_keeps, fd_p_keeps, G_p_keeps, m_p_keeps, k_p_keeps, b_p_keeps, F_p_keeps⟩ := h_p_keeps
  refine ⟨f, fd, ?_, mg1, F.kp, bd, F⟩
  refine F.ok sc_p_is_arc (fun vs H Q E h => ?_) (fun cdv A outer s H vs Q E hr h => ?_)
  · obtain ⟨a, b, xs, zs, rfl, _⟩ := h
    rfl
  · obtain ⟨a, b, xs, zs, rfl, ha, hb, nd, sub, ne, hl, hlz, q⟩ := h
    refine ⟨_, (pss_cons (ps_set (i := 2) sc_p_is_arc.nd rfl (Or.inl rfl) (pe_call G_p_rest (hr.mono (by decide)) (by rfl) m_p_rest k_p_rest b_p_rest .nil pass0 (pa_cons (pv 0) (pa_cons (pv 1) pa_nil)))) (pss_one (ps_ret (pe_or (pe_cmpR op_eq (pe_callB call_len_seq (by rfl) Z.len_ (by decide +kernel) (pa_cons (pv 2) pa_nil)) pe_int (nomark _)) (pe_or (pe_call G_p_keeps (hr.mono (by decide)) (by rfl) m_p_keeps k_p_keeps b_p_keeps .nil pass0 (pa_cons (pv 0) (pa_cons (pv 1) pa_nil))) (pe_one (pe_call G_p_keeps (hr.mono (by decide)) (by rfl) m_p_keeps k_p_keeps b_p_keeps .nil pass0 (pa_cons (pv 0) (pa_cons (pv 2) pa_nil))))))))), ?_⟩
    refine ⟨_, rfl, _, rfl, a, b, xs, zs, rfl, ha.sq, hb, hl, fun R H1 s1 nR eR => ?_⟩
    have lo : ((xs.filter fun x => !decide (x ∈ zs)).map V.str).length = (xs.filter fun x => !decide (x ∈ zs)).length := List.length_map _
    refine ⟨_, rfl, R, _, rfl, .inr (.inl (.inl eR)), rfl, _, rfl, ite2 (fun z => ?_) (fun z => ?_)⟩
    · have z' := V.int.inj (of_decide_eq_true z)
      have e0 : xs.filter (fun x => !decide (x ∈ zs)) = [] := List.length_eq_zero_iff.mp (by rw [lo] at z'; omega)
      exact q true _ (.inl ⟨e0, rfl⟩) s1
    · have os : xs.filter (fun x => !decide (x ∈ zs)) ≠ [] := fun e => by
        refine z (decide_eq_true ?_)
        rw [e]
        rfl
      refine ⟨_, rfl, _, rfl, a, b, xs, zs, rfl, ha.to s1, same_t s1 hb, nd, sub, ne, hl, hlz, fun gs H2 hg s2 => ⟨_, rfl, ite2 (fun k => ?_) (fun k => ?_)⟩⟩
      · refine q true _ (.inr ⟨os, fun gs' hs' h1 h2 => ?_⟩) (s1.trans s2)
        rw [h1.one hg, k, Bool.true_or]
      · have s12 := s1.trans s2
        refine ⟨_, rfl, _, rfl, a, R, xs, _, rfl, ha.to s12, .inl (.inl (s2 _ _ eR)), nd, fun x hx => (List.mem_filter.mp hx).1, os, hl, Nat.le_trans (List.length_filter_le _ _) hl, fun hs H3 hh s3 => ?_⟩
        refine q _ _ (.inr ⟨os, fun gs' hs' h1 h2 => ?_⟩) (s12.trans s3)
        rw [h1.one hg, h2.one hh, Bool.eq_false_iff.mpr k, Bool.false_or]
end
end Th
namespace Th
open PySem PySem.Spec PyProof.Rows L2
abbrev s_l_lot : Stmt := topS 29
theorem sc_l_lot : FnScope ["_law_names_here", "_law_bits", "_law_k"] ["_law_names_here", "_law_bits"] (defScope s_l_lot) := ⟨rfl, rfl, rfl, by decide +kernel, rfl, by decide +kernel, by decide +kernel⟩
theorem shr_nat (b k : Nat) : (b : Int) / 2 ^ k = ((b / 2 ^ k : Nat) : Int) := by
  rw [Int.natCast_ediv, Int.natCast_pow]
  rfl
theorem bit_iff (b k : Nat) : decide (V.int (((b / 2 ^ k % 2 : Nat) : Nat) : Int) = V.int 1) = b.testBit k := by
  rw [Nat.testBit_eq_decide_div_mod_eq, Bool.eq_iff_iff, decide_eq_true_eq, decide_eq_true_eq]
  exact ⟨fun h => by have := V.int.inj h; omega, fun h => by rw [h]; rfl⟩
/-- the names whose bits are set, in a new tuple -/
def spLotBits (K : PySem.W.Frag) : Sp := fun vs H Q _ => ∃ (a : Addr) (xs : List Str) (b : Nat), vs = [.ref a, .int (b : Int)] ∧ SqL K H a (xs.map V.str) ∧ xs.length ≤ 60 ∧
  ∀ r (zs : List Str) H', (∀ x, x ∈ zs ↔ ∃ k, xs[k]? = some x ∧ b.testBit k = true) → zs.length ≤ xs.length → Same H H' → H r = none → H' r = some (.tup (zs.map V.str)) → Q (.ref r) H'
section
variable {P : Program} {w : World} {K : PySem.W.Frag} {mg : Str → Option Value} {base : Heap}
theorem has_l_lot (Z : Zs mg) (A : At K mg "_law_lot" s_l_lot ["_law_names_here", "_law_bits"]) : Has P w K mg base "_law_lot" s_l_lot 1 ["_law_names_here", "_law_bits"] (spLotBits K) := by
  obtain ⟨f, fd, F, mg1, bd⟩ := A
  refine ⟨f, fd, ?_, mg1, F.kp, bd, F⟩
  refine F.ok sc_l_lot (fun vs H Q E h => ?_) (fun cdv A outer s H vs Q E hr h => ?_)
  · obtain ⟨a, xs, b, rfl, _⟩ := h
    rfl
  · obtain ⟨a, xs, b, rfl, ha, hl, q⟩ := h
    refine ⟨_, (pss_one (ps_ret (pe_callTy call_tuple_of (by rfl) Z.tuple_ (by decide +kernel) (pa_cons (pe_lc (own := [("_law_k", 2)]) (g := gName 2) (by rfl) sc_l_lot.nd (pi_range1 (by rfl) Z.range_ (pa_cons (pe_callB call_len_seq (by rfl) Z.len_ (by decide +kernel) (pa_cons (pv 0) pa_nil)) pa_nil)) (blkOk_by (own := [("_law_k", 2)]) (N := ["_law_names_here", "_law_bits", "_law_k"]) (sc := defScope s_l_lot) (by decide +kernel)) (fun _ _ _ _ _ => pg_name (i := 2) sc_l_lot.nd rfl (Or.inl rfl)) (fun _ _ _ _ _ => (pts_one (pt_cmpR op_eq (pe_op op_odd (pe_op op_shrN (pv 1) (pv 2)) pe_int) pe_int (nomark _)))) (fun _ _ _ _ _ => (pe_ix (show IxR _ (rIxL K) from ix_list) (pv 0) (pv 2) (fun _ _ => rfl)))) pa_nil)))), ?_⟩
    have lm : (xs.map V.str).length = xs.length := List.length_map _
    refine ⟨_, rfl, a, _, rfl, .inl ha, _, rfl, by omega, by omega, fun L nL => ?_⟩
    rw [show (((xs.map V.str).length : Nat) : Int).toNat = xs.length by omega]
    refine lc_range (lo := 0) (n := xs.length) (fun i H2 => Same H H2 ∧ ∃ zs : List Str, zs.length ≤ i ∧ (∀ x, x ∈ zs ↔ ∃ k, k < i ∧ xs[k]? = some x ∧ b.testBit k = true) ∧ H2 L = some (.lst (zs.map V.str)))
      ⟨same_new nL, [], Nat.le_refl _, fun x => ⟨fun z => (nomatch z), fun ⟨k, z, _⟩ => absurd z (Nat.not_lt_zero k)⟩, upd_same⟩ ?_ ?_
    · rintro i H2 hi ⟨s2, zs, lz, hz, e2⟩
      obtain ⟨x, hx⟩ : ∃ x, xs[i]? = some x := ⟨_, List.getElem?_eq_getElem hi⟩
      refine ⟨rfl, _, rfl, _, rfl, _, i, rfl, congrArg V.int (Int.zero_add _), b / 2 ^ i, congrArg V.int (shr_nat b i), rfl, rfl, _, rfl, ?_⟩
      rw [bit_iff]
      refine ite2 (fun hb => ?_) (fun hb => ?_)
      · refine ⟨_, rfl, _, rfl, a, _, _, .str x, rfl, rfl, s2.seq ha, atI_of (by omega) (by rw [show ((0 : Int) + (i : Int)).toNat = i by omega, List.getElem?_map, hx]; rfl), _, e2, slineL (by rw [List.length_map]; omega), same_mut s2 nL, zs ++ [x], by rw [List.length_append]; show zs.length + 1 ≤ i + 1; omega, fun y => ?_, by rw [upd_same, List.map_append]; rfl⟩
        rw [List.mem_append, hz, List.mem_singleton]
        constructor
        · rintro (⟨k, h1, h2, h3⟩ | e)
          · exact ⟨k, by omega, h2, h3⟩
          · exact ⟨i, by omega, by rw [e]; exact hx, hb⟩
        · rintro ⟨k, h1, h2, h3⟩
          by_cases hk : k < i
          · exact .inl ⟨k, hk, h2, h3⟩
          · have : k = i := by omega
            rw [this, hx] at h2
            exact .inr (Option.some.inj h2).symm
      · refine ⟨s2, zs, by omega, fun y => ?_, e2⟩
        rw [hz]
        constructor
        · rintro ⟨k, h1, h2, h3⟩
          exact ⟨k, by omega, h2, h3⟩
        · rintro ⟨k, h1, h2, h3⟩
          by_cases hk : k < i
          · exact ⟨k, hk, h2, h3⟩
          · have : k = i := by omega
            rw [this] at h3
            exact absurd h3 hb
    · rintro H2 ⟨s2, zs, lz, hz, e2⟩
      refine ⟨L, _, rfl, .inl ⟨.inl (.inl e2), fun r nr => ?_⟩⟩
      refine q r zs _ (fun x => ?_) lz (s2.trans (same_new nr)) (s2.free nr) upd_same
      rw [hz]
      constructor
      · rintro ⟨k, _, h2, h3⟩
        exact ⟨k, h2, h3⟩
      · rintro ⟨k, h2, h3⟩
        exact ⟨k, lt_of_get h2, h2, h3⟩
end
end Th
namespace Th
open PySem PySem.Spec PyProof.Rows L2
abbrev s_p_copied : Stmt := topS 1
theorem sc_p_copied : FnScope ["value", "item"] ["value"] (defScope s_p_copied) := ⟨rfl, rfl, rfl, by decide +kernel, rfl, by decide +kernel, by decide +kernel⟩

/-- a copy of data: what is hidden stays out of it -/
def spCopy (K : PySem.W.Frag) (n : Nat) : Sp := fun vs H Q _ => ∃ (v : V) (d : PyData) (S : Addr → Prop), vs = [v] ∧ (∀ b, S b → H b ≠ none) ∧ Da K (hidS S H) v d ∧ LvN n d ∧ ∀ v' H', Same H H' → Da K (hidS S H') v' d → Q v' H'
section
variable {P : Program} {w : World} {K : PySem.W.Frag} {mg : Str → Option Value} {base : Heap}
theorem copied_step (Z : Zs mg) {f : Addr} {fd : FuncData} (F : Fun K "copied" "copied" s_p_copied f fd) (m_p_copied : mg "copied" = some (.ref f)) (b_p_copied : Binds K fd ["value"] []) (k : Nat)
    (G_p_copied : FnOk P w K mg base CX0 k f fd ["value"] (spCopy K k)) : FnOk P w K mg base CX0 (k + 1) f fd ["value"] (spCopy K (k + 1)) := by
  have k_p_copied := F.kp
  refine F.ok sc_p_copied (fun vs H Q E h => ?_) (fun cdv A outer s H vs Q E hr h => ?_)
  · obtain ⟨v, d, S, rfl, _⟩ := h
    rfl
  · obtain ⟨v, d, S, rfl, hS, rv, lv, q⟩ := h
    have nd := rv.nodict
    have rH := rv.to hidS_same
    refine ⟨_, (pss_cons (ps_if (pt_val (pe_callB call_isi (by rfl) Z.isinstance_ (by decide +kernel) (pa_cons (pv 0) (pa_cons (pe_bltn (v := .ty "list") (by rfl) Z.list_ (by decide +kernel) rfl) pa_nil)))) (pss_one (ps_ret (pe_lc (own := [("item", 1)]) (g := gName 1) (by rfl) sc_p_copied.nd (pi_list (pv 0)) (blkOk_by (own := [("item", 1)]) (N := ["value", "item"]) (sc := defScope s_p_copied) (by decide +kernel)) (fun _ _ _ _ _ => pg_name (i := 1) sc_p_copied.nd rfl (Or.inl rfl)) (fun _ _ _ _ _ => pts_nil) (fun _ _ _ _ _ => (pe_call G_p_copied (hr.mono (Nat.le_refl _)) (by rfl) m_p_copied k_p_copied b_p_copied .nil pass0 (pa_cons (pv 1) pa_nil)))))) pss_nil) (pss_cons (ps_if (pt_val (pe_callB call_isi (by rfl) Z.isinstance_ (by decide +kernel) (pa_cons (pv 0) (pa_cons (pe_bltn (v := .ty "tuple") (by rfl) Z.tuple_ (by decide +kernel) rfl) pa_nil)))) (pss_one (ps_ret (pe_callTy call_tuple_of (by rfl) Z.tuple_ (by decide +kernel) (pa_cons (pe_lc (own := [("item", 1)]) (g := gName 1) (by rfl) sc_p_copied.nd (pi_tup (pv 0)) (blkOk_by (own := [("item", 1)]) (N := ["value", "item"]) (sc := defScope s_p_copied) (by decide +kernel)) (fun _ _ _ _ _ => pg_name (i := 1) sc_p_copied.nd rfl (Or.inl rfl)) (fun _ _ _ _ _ => pts_nil) (fun _ _ _ _ _ => (pe_call G_p_copied (hr.mono (Nat.le_refl _)) (by rfl) m_p_copied k_p_copied b_p_copied .nil pass0 (pa_cons (pv 1) pa_nil)))) pa_nil)))) pss_nil) (pss_one (ps_ret (pv 0))))), ?_⟩
    have lv : Lv k d := lv
    -- a comprehension over the items copies each
    have walk : ∀ (L : Addr) (xs : List V) (ds : List PyData), H L = none → DaAll K (hidS S H) xs ds → (∀ x ∈ ds, LvN k x) → xs.length ≤ 60 → ∀ (i : Nat) (y : V) (H2 : Hp), xs[i]? = some y →
        (∃ ys, Same H H2 ∧ H2 L = some (.lst ys) ∧ ys.length = i ∧ DaAll K (hidS (fun b => S b ∨ b = L) H2) ys (ds.take i)) →
        spCopy K k ([y] ++ []) H2 (fun v' H3 => ∃ zs, H3 L = some (.lst zs) ∧ zs.length < sizeLine ∧ ∃ ys, Same H (upd H3 L (.lst (zs ++ [v']))) ∧ upd H3 L (.lst (zs ++ [v'])) L = some (.lst ys) ∧ ys.length = i + 1 ∧ DaAll K (hidS (fun b => S b ∨ b = L) (upd H3 L (.lst (zs ++ [v'])))) ys (ds.take (i + 1))) E0 := by
      rintro L xs ds nL rx lvx lx i y H2 hi ⟨ys, s2, e2, hy, ry⟩
      obtain ⟨e, he, re⟩ := rx.at hi
      refine ⟨y, e, fun b => S b ∨ b = L, rfl, fun b hb => ?_, re.to (hidS_more s2 nL), lvx e (List.mem_of_getElem? he), fun v' H3 s3 rv' => ?_⟩
      · rcases hb with hb | rfl
        · cases e1 : H b with
          | none => exact absurd e1 (hS b hb)
          | some o => rw [s2 b o e1]; exact fun z => nomatch z
        · rw [e2]; exact fun z => nomatch z
      · refine ⟨ys, s3 _ _ e2, slineL (by have := lt_of_get hi; omega), ys ++ [v'], same_mut (s2.trans s3) nL, upd_same, by rw [List.length_append, hy]; rfl, ?_⟩
        rw [hidS_upd, List.take_add_one, he]
        exact (ry.to (hidS_mono s3)).app (.cons rv' .nil)
    by_cases hl : tyD d = "list"
    · cases d with
      | none => exact absurd (show ("NoneType" : String) = "list" from hl) (by decide)
      | bool b => exact absurd (show ("bool" : String) = "list" from hl) (by decide)
      | int b => exact absurd (show ("int" : String) = "list" from hl) (by decide)
      | str b => exact absurd (show ("str" : String) = "list" from hl) (by decide)
      | tuple ds => exact absurd (show ("tuple" : String) = "list" from hl) (by decide)
      | dict kvs => exact absurd rfl nd
      | list ds =>
        obtain ⟨lvl, lvx⟩ := lvn_list lv
        cases rv with
        | @lst p xs _ hp ht rx =>
        have hp' := hidS_same.seq hp
        have lx : xs.length ≤ 60 := by rw [rx.len]; exact lvl
        refine ⟨_, rfl, _, _, _, _, _, rfl, .ty "list", rH.ty, kit_ty (kit_list _ nd), _, rfl, iteT ?_⟩
        refine ⟨_, rfl, p, rfl, ⟨_, hp'⟩, fun L nL => ?_⟩
        have nS : ¬ S L := fun z => hS L z nL
        refine lc_list (K := K) (a := p) (xs := xs) (fun i H2 => ∃ ys, Same H H2 ∧ H2 L = some (.lst ys) ∧ ys.length = i ∧ DaAll K (hidS (fun b => S b ∨ b = L) H2) ys (ds.take i)) ⟨[], same_new nL, upd_same, rfl, .nil⟩ (fun i H2 _ ⟨_, s2, _⟩ => s2.seq hp') ?_ ?_
        · intro i y H2 hi w2
          have step := walk L xs ds nL rx lvx lx i y H2 hi w2
          refine ⟨rfl, _, rfl, ?_⟩
          exact step
        · rintro H2 ⟨ys, s2, e2, hy, ry⟩
          rw [rx.len, List.take_length] at ry
          refine q _ _ s2 (Da.newL (by rw [hidS_out nS]; exact e2) (ry.to hidS_less))
    refine ⟨_, rfl, _, _, _, _, _, rfl, .ty "list", rH.ty, kit_ty (kit_list _ nd), _, rfl, ?_⟩
    rw [decide_eq_false hl]
    refine iteF ?_
    by_cases ht : tyD d = "tuple"
    · cases d with
      | none => exact absurd (show ("NoneType" : String) = "tuple" from ht) (by decide)
      | bool b => exact absurd (show ("bool" : String) = "tuple" from ht) (by decide)
      | int b => exact absurd (show ("int" : String) = "tuple" from ht) (by decide)
      | str b => exact absurd (show ("str" : String) = "tuple" from ht) (by decide)
      | list ds => exact absurd (show ("list" : String) = "tuple" from ht) (by decide)
      | dict kvs => exact absurd rfl nd
      | tuple ds =>
        obtain ⟨lvl, lvx⟩ := lvn_tuple lv
        cases rv with
        | @tup p xs _ hp hty rx =>
        have hp' := same_t hidS_same hp
        have lx : xs.length ≤ 60 := by rw [rx.len]; exact lvl
        refine ⟨_, rfl, _, _, _, _, _, rfl, .ty "tuple", rH.ty, kit_ty (kit_tuple _ nd), _, rfl, iteT ?_⟩
        refine ⟨_, rfl, p, rfl, ⟨_, hp'⟩, fun L nL => ?_⟩
        refine lc_tup (K := K) (a := p) (xs := xs) (fun i H2 => ∃ ys, Same H H2 ∧ H2 L = some (.lst ys) ∧ ys.length = i ∧ DaAll K (hidS (fun b => S b ∨ b = L) H2) ys (ds.take i)) ⟨[], same_new nL, upd_same, rfl, .nil⟩ (fun i H2 _ ⟨_, s2, _⟩ => same_t s2 hp') ?_ ?_
        · intro i y H2 hi w2
          have step := walk L xs ds nL rx lvx lx i y H2 hi w2
          refine ⟨rfl, _, rfl, ?_⟩
          exact step
        · rintro H2 ⟨ys, s2, e2, hy, ry⟩
          rw [rx.len, List.take_length] at ry
          refine ⟨L, ys, rfl, .inl ⟨.inl (.inl e2), fun r nr => ?_⟩⟩
          have s3 := same_new (o := .tup ys) nr
          have nSr : ¬ S r := fun z => by
            have h1 := hS r z
            cases e1 : H r with
            | none => exact h1 e1
            | some o => rw [s2 r o e1] at nr; cases nr
          refine q _ _ (s2.trans s3) (Da.newT (by rw [hidS_out nSr]; exact upd_same) ((ry.to hidS_less).to (hidS_mono s3)))
    refine ⟨_, rfl, _, _, _, _, _, rfl, .ty "tuple", rH.ty, kit_ty (kit_tuple _ nd), _, rfl, ?_⟩
    rw [decide_eq_false ht]
    refine iteF ?_
    exact ⟨_, rfl, q _ _ (Same.refl _) rv⟩
theorem has_p_copied (Z : Zs mg) (A : At K mg "copied" s_p_copied ["value"]) : Has P w K mg base "copied" s_p_copied 6 ["value"] (spCopy K 6) := by
  obtain ⟨f, fd, F, mg1, bd⟩ := A
  refine ⟨f, fd, ?_, mg1, F.kp, bd, F⟩
  have G0 : FnOk P w K mg base CX0 0 f fd ["value"] (spCopy K 0) := ⟨fun vs H Q E h => by obtain ⟨v, d, S, rfl, _⟩ := h; rfl, fun A outer s H args us vs Q E hr he hb hv hs => by obtain ⟨v, d, S, rfl, _, _, z, _⟩ := hs; exact z.elim⟩
  exact copied_step Z F mg1 bd 5 (copied_step Z F mg1 bd 4 (copied_step Z F mg1 bd 3 (copied_step Z F mg1 bd 2 (copied_step Z F mg1 bd 1 (copied_step Z F mg1 bd 0 G0)))))
end
end Th
namespace Th
open PySem PySem.Spec PyProof.Rows L2
abbrev s_c_UnknownFind_init : Stmt := inClass (topS 5) 0
theorem sc_c_UnknownFind_init : FnScope ["self", "name"] ["self", "name"] (defScope s_c_UnknownFind_init) := ⟨rfl, rfl, rfl, by decide +kernel, rfl, by decide +kernel, by decide +kernel⟩

section
variable {P : Program} {w : World} {K : PySem.W.Frag} {mg : Str → Option Value} {base : Heap}
theorem has_c_UnknownFind_init {fI : Addr} {fd : FuncData} (Z : Zs mg) (F : Fun K "__init__" "UnknownFind.__init__" s_c_UnknownFind_init fI fd) (h_p_copied : Has P w K mg base "copied" s_p_copied 6 ["value"] (spCopy K 6)) : FnOk P w K mg base CX0 7 fI fd ["self", "name"] (spInit1 K "UnknownFind" "name" 6) := by
  obtain ⟨f_p_copied, fd_p_copied, G_p_copied, m_p_copied, k_p_copied, b_p_copied, F_p_copied⟩ := h_p_copied
  refine F.ok sc_c_UnknownFind_init (fun vs H Q E h => ?_) (fun cdv A outer s H vs Q E hr h => ?_)
  · obtain ⟨a, C, v, d, rfl, _⟩ := h
    rfl
  · obtain ⟨a, C, v, d, rfl, G, n1, n2, ea, rv, lv, q⟩ := h
    refine ⟨_, (pss_cons (ps_put (pv 0) (pe_call G_p_copied (hr.mono (by decide)) (by rfl) m_p_copied k_p_copied b_p_copied .nil pass0 (pa_cons (pv 1) pa_nil))) (pss_one (ps_put (pv 0) pe_str))), ?_⟩
    refine ⟨_, rfl, v, d, fun b => b = a, rfl, fun b hb => (by rw [hb, ea]; exact fun z => nomatch z), rv.kd fun b o e p => ?_, lv, fun v' H1 s1 rv' => ?_⟩
    · rw [hidS_out fun z => ?_]
      · exact e
      · rw [z, ea] at e
        exact p.1 _ (Option.some.inj e).symm
    · have ea1 := s1 _ _ ea
      refine ⟨_, rfl, a, C, rfl, G, n1, .inl ⟨ea1, fun dx nd ne => ?_⟩⟩
      refine ⟨_, rfl, a, C, rfl, G, n2, .inr ⟨dx, [("name", v')], upd_same, ?_, (by show 1 ≤ 900; decide), ?_⟩⟩
      · rw [upd_ne ne]; exact upd_same
      · exact q H1 v' dx s1 (rv'.to hidS_same) nd ne
end
end Th
namespace Th
open PySem PySem.Spec PyProof.Rows L2
abbrev s_p_place_in : Stmt := topS 15
theorem sc_p_place_in : FnScope ["order", "name"] ["order", "name"] (defScope s_p_place_in) := ⟨rfl, rfl, rfl, by decide +kernel, rfl, by decide +kernel, by decide +kernel⟩
/-- a find's place, or an error -/
def spPlace (K : PySem.W.Frag) (mg : Str → Option Value) : Sp := fun vs H Q E => ∃ (a : Addr) (xs : List Str) (v : V) (d : PyData), vs = [.ref a, v] ∧ BareT H a (xs.map V.str) ∧ xs.Nodup ∧ (∀ x ∈ xs, isNm x = true) ∧ xs.length ≤ 60 ∧ Da K H v d ∧ LvN 6 d ∧
  (∀ x (i : Nat), d = .str x → xs[i]? = some x → Q (.int (i : Int)) H) ∧
  (inNm d xs = false → ∀ cls dd v' H', Same H H' → IsExc K mg "UnknownFind" [("code", .str "UnknownFind"), ("name", v')] cls dd H' → Da K H' v' d → E cls dd H')
section
variable {P : Program} {w : World} {K : PySem.W.Frag} {mg : Str → Option Value} {base : Heap}
theorem has_p_place_in (Z : Zs mg) (A : At K mg "place_in" s_p_place_in ["order", "name"]) (h_c_UnknownFind_init : HasE P w K mg base "UnknownFind" "UnknownFind.__init__" s_c_UnknownFind_init ["self", "name"] ["name", "code"] 7 (spInit1 K "UnknownFind" "name" 6)) : HasX P w K mg base "place_in" s_p_place_in 9 ["order", "name"] (spPlace K mg) := by
  obtain ⟨f, fd, F, mg1, bd⟩ := A
  obtain ⟨C_c_UnknownFind_init, fI_c_UnknownFind_init, fd_c_UnknownFind_init, E_c_UnknownFind_init, G_c_UnknownFind_init⟩ := h_c_UnknownFind_init
  refine ⟨f, fd, ?_, mg1, F.kp, bd, F⟩
  refine F.okX sc_p_place_in (fun vs H Q E h => ?_) (fun cdv A outer s H vs Q E hr h => ?_)
  · obtain ⟨a, xs, v, d, rfl, _⟩ := h
    rfl
  · obtain ⟨a, xs, v, d, rfl, hA, nd, nmx, hl, rv, lv, q1, q2⟩ := h
    refine ⟨_, (pss_cons (ps_if (pt_cmpR (op_notInT (hu65 hr)) (pv 1) (pv 0) (by rfl)) (pss_one (ps_raise rfl (takes_of rfl rfl rfl rfl) (pmk_new E_c_UnknownFind_init.g E_c_UnknownFind_init.ini E_c_UnknownFind_init.tI G_c_UnknownFind_init (hr.mono (by decide)) E_c_UnknownFind_init.b (by rfl) E_c_UnknownFind_init.m (pa_cons (pv 1) pa_nil)))) pss_nil) (pss_one (ps_ret (pe_mG ty_bare PySem.F.plainAttrs_tuple PySem.F.slot_tuple_index PySem.F.type_tuple_index (show MtR _ "tuple.index" (rTupIx K) from mt_tupIx) (pv 0) (pa_cons (pv 1) pa_nil))))), ?_⟩
    have shX : SeqAt.shaped (.tuple (xs.map PyData.str)) = true := (lv_lot (n := 0) nmx hl).shaped (by decide)
    have lv5 : Lv 5 d := lv
    refine ⟨_, rfl, _, rfl, d, xs.map .str, rv.dp, (bare_da hA (DaAll.strs xs)).dp, lv5.shaped (by decide), shX, _, rfl, ?_⟩
    rw [if_pos rfl, any_nm d rv.nodict]
    refine ite2 (fun hm => ?_) (fun hm => ?_)
    · have hm' : inNm d xs = false := by simpa using hm
      refine ⟨_, rfl, ?_⟩
      exact new1 E_c_UnknownFind_init (by decide) (by decide) rv lv fun cls dd v' H' s e r => q2 hm' cls dd v' H' s e r
    · have hm' : inNm d xs = true := by simpa using hm
      cases d with
      | str x =>
        cases rv
        have mx : x ∈ xs := of_decide_eq_true hm'
        obtain ⟨i, hi, hn, _⟩ := placeOf nd mx
        exact ⟨_, rfl, ⟨a, _, rfl, hA⟩, _, rfl, a, xs, x, i, rfl, rfl, hA.sq, hi, hn, q1 x i rfl hi⟩
      | none => cases hm'
      | bool b => cases hm'
      | int b => cases hm'
      | list b => cases hm'
      | tuple b => cases hm'
      | dict b => cases hm'
end
end Th
namespace Th
open PySem PySem.Spec PyProof.Rows L2
abbrev s_p_opened : Stmt := topS 21
theorem sc_p_opened : FnScope ["order", "name", "place"] ["order", "name"] (defScope s_p_opened) := ⟨rfl, rfl, rfl, by decide +kernel, rfl, by decide +kernel, by decide +kernel⟩
/-- a ring's order, opened behind a find, or an error -/
def spOpened (K : PySem.W.Frag) (mg : Str → Option Value) : Sp := fun vs H Q E => ∃ (a : Addr) (xs : List Str) (v : V) (d : PyData), vs = [.ref a, v] ∧ BareT H a (xs.map V.str) ∧ xs.Nodup ∧ (∀ x ∈ xs, isNm x = true) ∧ xs.length ≤ 60 ∧ Da K H v d ∧ LvN 6 d ∧
  (∀ x (i : Nat), d = .str x → xs[i]? = some x → ∀ r H', Same H H' → Da K H' r (.tuple ((xs.drop (i + 1) ++ xs.take i).map .str)) → Q r H') ∧
  (inNm d xs = false → ∀ cls dd v' H', Same H H' → IsExc K mg "UnknownFind" [("code", .str "UnknownFind"), ("name", v')] cls dd H' → Da K H' v' d → E cls dd H')
theorem cut_fromT (xs : List V) {i : Nat} (h : i ≤ xs.length) : cutV xs (some (i : Int)) none = xs.drop i := by
  unfold cutV
  rw [HT.sIx_none, HT.sIx_nat, Nat.min_eq_left h]
  refine List.take_of_length_le ?_
  rw [List.length_drop]
  omega
section
variable {P : Program} {w : World} {K : PySem.W.Frag} {mg : Str → Option Value} {base : Heap}
theorem has_p_opened (Z : Zs mg) (A : At K mg "opened" s_p_opened ["order", "name"]) (h_p_place_in : HasX P w K mg base "place_in" s_p_place_in 9 ["order", "name"] (spPlace K mg)) : HasX P w K mg base "opened" s_p_opened 10 ["order", "name"] (spOpened K mg) := by
  obtain ⟨f, fd, F, mg1, bd⟩ := A
  obtain ⟨f_p_place_in, fd_p_place_in, G_p_place_in, m_p_place_in, k_p_place_in, b_p_place_in, F_p_place_in⟩ := h_p_place_in
  refine ⟨f, fd, ?_, mg1, F.kp, bd, F⟩
  refine F.okX sc_p_opened (fun vs H Q E h => ?_) (fun cdv A outer s H vs Q E hr h => ?_)
  · obtain ⟨a, xs, v, d, rfl, _⟩ := h
    rfl
  · obtain ⟨a, xs, v, d, rfl, hA, nd, nmx, hl, rv, lv, q1, q2⟩ := h
    refine ⟨_, (pss_cons (ps_set (i := 2) sc_p_opened.nd rfl (Or.inl rfl) (pe_call G_p_place_in (hr.mono (by decide)) (by rfl) m_p_place_in k_p_place_in b_p_place_in .nil (passes_call (takes_of rfl rfl rfl rfl) fun _ _ _ _ h => h) (pa_cons (pv 0) (pa_cons (pv 1) pa_nil)))) (pss_one (ps_ret (pe_op op_catD (pe_slice sl_tupD (pv 0) (po_some (pe_op op_add (pv 2) pe_int)) po_none) (pe_slice sl_tupD (pv 0) po_none (po_some (pv 2))))))), ?_⟩
    refine ⟨_, rfl, _, rfl, a, xs, v, d, rfl, hA, nd, nmx, hl, rv, lv, fun x i e hi => ?_, q2⟩
    have hil := lt_of_get hi
    have lm : (xs.map V.str).length = xs.length := List.length_map _
    refine ⟨_, rfl, _, rfl, _, _, rfl, rfl, ((i + 1 : Nat) : Int), rfl, a, _, rfl, TupAt.bare hA, fun r1 H1 s1 _ t1 => ?_⟩
    refine ⟨_, rfl, _, rfl, (i : Int), rfl, a, _, rfl, (TupAt.bare hA).to s1, fun r2 H2 s2 _ t2 => ?_⟩
    have c1 := cutV_length (xs.map V.str) (some ((i + 1 : Nat) : Int)) none
    have c2 := cutV_length (xs.map V.str) none (some (i : Int))
    refine ⟨r1, r2, _, _, rfl, rfl, t1.to s2, t2, sline (by omega), fun r3 H3 s3 _ t3 => ?_⟩
    rw [cut_fromT _ (by omega), cut_to _ (Int.natCast_nonneg i), Int.toNat_natCast, ← List.map_drop, ← List.map_take, ← List.map_append] at t3
    exact q1 x i e hi _ H3 ((s1.trans s2).trans s3) (t3.da (DaAll.strs _))
end
end Th
namespace Th
open PySem PySem.Spec PyProof.Rows L2
abbrev s_l_opened_so : Stmt := topS 42
theorem sc_l_opened_so : FnScope ["_law_ring", "_law_names_here", "_law_at", "_law_order_here"] ["_law_ring", "_law_names_here", "_law_at"] (defScope s_l_opened_so) := ⟨rfl, rfl, rfl, by decide +kernel, rfl, by decide +kernel, by decide +kernel⟩
/-- a ring's order is opened as told -/
def nmAt (ys : List Str) (k : Nat) : Str := ys.getD k Str.empty
theorem nmAt_get {ys : List Str} {k : Nat} (h : k < ys.length) : ys[k]? = some (nmAt ys k) := by
  unfold nmAt
  rw [List.getD_eq_getElem?_getD, List.getElem?_eq_getElem h]
  rfl
def spOpenSo (K : PySem.W.Frag) : Sp := fun vs H Q _ => ∃ (a b : Addr) (ks : List Nat) (ys : List Str) (i : Nat), vs = [.ref a, .ref b, .int (i : Int)] ∧ SqL K H a (ks.map fun k => V.int (k : Nat)) ∧ SqL K H b (ys.map V.str) ∧ ks.Nodup ∧ (∀ k ∈ ks, k < ys.length) ∧ ks.length ≤ 12 ∧ Nms ys ∧ ys.length ≤ 12 ∧ i < ks.length ∧
  ∀ H', Same H H' → Q (.bl true) H'
theorem rdir {ys : List Str} {ks : List Nat} (h : ∀ k ∈ ks, k < ys.length) : ∀ (i k : Nat) (z : V), ks[i]? = some k → (ks.map fun k => V.str (nmAt ys k))[i]? = some z → (ys.map V.str)[k]? = some z := fun i k z hk hz => by
  rw [List.getElem?_map, hk] at hz
  rw [List.getElem?_map, nmAt_get (h k (List.mem_of_getElem? hk))]
  exact hz
theorem ring_nodup {ys : List Str} {ks : List Nat} (n : ks.Nodup) (h : ∀ k ∈ ks, k < ys.length) (m : ys.Nodup) : (ks.map (nmAt ys)).Nodup := by
  refine List.pairwise_map.mpr (List.Pairwise.imp_of_mem (R := fun a b => a ≠ b) ?_ n)
  intro a b ha hb ab e
  have e1 := nmAt_get (h a ha)
  have e2 := nmAt_get (h b hb)
  rw [← e] at e2
  exact ab (nodup_at m e1 e2)
section
variable {P : Program} {w : World} {K : PySem.W.Frag} {mg : Str → Option Value} {base : Heap}
theorem has_l_opened_so (Z : Zs mg) (A : At K mg "_law_opened_so" s_l_opened_so ["_law_ring", "_law_names_here", "_law_at"]) (h_l_order : Has P w K mg base "_law_order" s_l_order 1 ["_law_names_here", "_law_order_here"] (spOrderOf K)) (h_l_same : Has P w K mg base "_law_same" s_l_same 6 ["_law_found", "_law_due"] (spSm K 6)) (h_p_opened : HasX P w K mg base "opened" s_p_opened 10 ["order", "name"] (spOpened K mg)) : Has P w K mg base "_law_opened_so" s_l_opened_so 11 ["_law_ring", "_law_names_here", "_law_at"] (spOpenSo K) := by
  obtain ⟨f, fd, F, mg1, bd⟩ := A
  obtain ⟨f_l_order, fd_l_order, G_l_order, m_l_order, k_l_order, b_l_order, F_l_order⟩ := h_l_order
  obtain ⟨f_l_same, fd_l_same, G_l_same, m_l_same, k_l_same, b_l_same, F_l_same⟩ := h_l_same
  obtain ⟨f_p_opened, fd_p_opened, G_p_opened, m_p_opened, k_p_opened, b_p_opened, F_p_opened⟩ := h_p_opened
  refine ⟨f, fd, ?_, mg1, F.kp, bd, F⟩
  refine F.ok sc_l_opened_so (fun vs H Q E h => ?_) (fun cdv A outer s H vs Q E hr h => ?_)
  · obtain ⟨a, b, ks, ys, i, rfl, _⟩ := h
    rfl
  · obtain ⟨a, b, ks, ys, i, rfl, ha, hb, nk, hk, lk, ny, ly, hi, q⟩ := h
    refine ⟨_, (pss_cons (ps_set (i := 3) sc_l_opened_so.nd rfl (Or.inl rfl) (pe_op op_cat (pe_slice sl_list (pv 0) (po_some (pe_op op_add (pv 2) pe_int)) po_none) (pe_slice sl_list (pv 0) po_none (po_some (pv 2))))) (pss_one (ps_ret (pe_call G_l_same (hr.mono (by decide)) (by rfl) m_l_same k_l_same b_l_same .nil pass0 (pa_cons (pe_call G_p_opened (hr.mono (by decide)) (by rfl) m_p_opened k_p_opened b_p_opened .nil passF (pa_cons (pe_call G_l_order (hr.mono (by decide)) (by rfl) m_l_order k_l_order b_l_order .nil pass0 (pa_cons (pv 1) (pa_cons (pv 0) pa_nil))) (pa_cons (pe_ix ix_list (pv 1) (pe_ix ix_list (pv 0) (pv 2) (fun _ _ => rfl)) (fun _ _ => rfl)) pa_nil))) (pa_cons (pe_call G_l_order (hr.mono (by decide)) (by rfl) m_l_order k_l_order b_l_order .nil pass0 (pa_cons (pv 1) (pa_cons (pv 3) pa_nil))) pa_nil)))))), ?_⟩
    have lm : (ks.map fun k => V.int (k : Nat)).length = ks.length := List.length_map _
    obtain ⟨k, hki⟩ : ∃ k, ks[i]? = some k := ⟨_, List.getElem?_eq_getElem hi⟩
    have hkl := hk k (List.mem_of_getElem? hki)
    -- the rotated numbers
    refine ⟨_, rfl, _, rfl, _, _, rfl, rfl, ((i + 1 : Nat) : Int), rfl, a, _, rfl, ha, fun A nA => ?_⟩
    have s1 := same_new (o := .lst (cutV (ks.map fun k => V.int (k : Nat)) (some ((i + 1 : Nat) : Int)) none)) nA
    have eA : (upd H A (.lst (cutV (ks.map fun k => V.int (k : Nat)) (some ((i + 1 : Nat) : Int)) none))) A = some (.lst ((ks.drop (i + 1)).map fun k => V.int (k : Nat))) := by rw [upd_same, cut_fromL _ (by omega), List.map_drop]
    generalize upd H A (.lst (cutV (ks.map fun k => V.int (k : Nat)) (some ((i + 1 : Nat) : Int)) none)) = H1 at s1 eA ⊢
    refine ⟨_, rfl, _, rfl, (i : Int), rfl, a, _, rfl, s1.seq ha, fun B nB => ?_⟩
    have s2 := s1.trans (same_new (o := .lst (cutV (ks.map fun k => V.int (k : Nat)) none (some (i : Int)))) nB)
    have eB : (upd H1 B (.lst (cutV (ks.map fun k => V.int (k : Nat)) none (some (i : Int))))) B = some (.lst ((ks.take i).map fun k => V.int (k : Nat))) := by rw [upd_same, cut_to _ (Int.natCast_nonneg i), Int.toNat_natCast, List.map_take]
    have eA2 := kp (u := .lst (cutV (ks.map fun k => V.int (k : Nat)) none (some (i : Int)))) eA nB
    generalize upd H1 B (.lst (cutV (ks.map fun k => V.int (k : Nat)) none (some (i : Int)))) = H2 at s2 eB eA2 ⊢
    refine ⟨A, B, _, _, rfl, rfl, eA2, eB, sline (by rw [List.length_map, List.length_map, List.length_drop, List.length_take]; omega), fun R nR => ?_⟩
    rw [← List.map_append]
    have s3 := s2.trans (same_new (o := .lst ((ks.drop (i + 1) ++ ks.take i).map fun k => V.int (k : Nat))) nR)
    have eR : (upd H2 R (.lst ((ks.drop (i + 1) ++ ks.take i).map fun k => V.int (k : Nat)))) R = some (.lst ((ks.drop (i + 1) ++ ks.take i).map fun k => V.int (k : Nat))) := upd_same
    generalize upd H2 R (.lst ((ks.drop (i + 1) ++ ks.take i).map fun k => V.int (k : Nat))) = H3 at s3 eR ⊢
    -- the order, opened
    refine ⟨_, rfl, _, rfl, b, a, ys.map V.str, ks, ks.map fun k => V.str (nmAt ys k), rfl, s3.seq hb, s3.seq ha, by omega, by rw [List.length_map], rdir hk, fun O H4 s4 nO bO => ?_⟩
    have em : (ks.map fun k => V.str (nmAt ys k)) = (ks.map (nmAt ys)).map V.str := by rw [List.map_map]; rfl
    rw [em] at bO
    have s34 := s3.trans s4
    refine ⟨_, rfl, _, rfl, _, rfl, a, _, (i : Int), _, rfl, rfl, s34.seq ha, atI_nat (by rw [List.getElem?_map, hki]; rfl), b, _, (k : Int), .str (nmAt ys k), rfl, rfl, s34.seq hb, atI_nat (by rw [List.getElem?_map, nmAt_get hkl]; rfl), ?_⟩
    have nmz : ∀ x ∈ ks.map (nmAt ys), isNm x = true := fun x hx => by
      obtain ⟨j, hj, rfl⟩ := List.mem_map.mp hx
      exact ny.2 _ (List.mem_of_getElem? (nmAt_get (hk j hj)))
    have nmk : isNm (nmAt ys k) = true := ny.2 _ (List.mem_of_getElem? (nmAt_get hkl))
    refine ⟨O, ks.map (nmAt ys), .str (nmAt ys k), .str (nmAt ys k), rfl, bO, ring_nodup nk hk ny.1, nmz, by rw [List.length_map]; omega, .str _, lv_nm nmk, fun x j ex hj r H5 s5 rr => ?_, fun z => ?_⟩
    · have ej : j = i := nodup_at (ring_nodup nk hk ny.1) hj (by rw [List.getElem?_map, hki, ← PyData.str.inj ex]; rfl)
      subst ej
      have s35 := s34.trans s5
      have hk2 : ∀ k ∈ ks.drop (j + 1) ++ ks.take j, k < ys.length := fun k m => by
        rcases List.mem_append.mp m with z | z
        · exact hk k (List.mem_of_mem_drop z)
        · exact hk k (List.mem_of_mem_take z)
      refine ⟨_, rfl, _, rfl, b, R, ys.map V.str, ks.drop (j + 1) ++ ks.take j, (ks.drop (j + 1) ++ ks.take j).map fun k => V.str (nmAt ys k), rfl, s35.seq hb, .inl (.inl (s5 _ _ (s4 _ _ eR))), by rw [List.length_append, List.length_drop, List.length_take]; omega, by rw [List.length_map], rdir hk2, fun O2 H6 s6 nO2 bO2 => ?_⟩
      have em2 : ((ks.drop (j + 1) ++ ks.take j).map fun k => V.str (nmAt ys k)) = ((ks.map (nmAt ys)).drop (j + 1) ++ (ks.map (nmAt ys)).take j).map V.str := by
        rw [← List.map_drop, ← List.map_take, ← List.map_append, List.map_map]
        rfl
      rw [em2] at bO2
      have ll : ((ks.map (nmAt ys)).drop (j + 1) ++ (ks.map (nmAt ys)).take j).length ≤ 60 := by
        rw [List.length_append, List.length_drop, List.length_take, List.length_map]
        omega
      refine ⟨r, .ref O2, .tuple (((ks.map (nmAt ys)).drop (j + 1) ++ (ks.map (nmAt ys)).take j).map .str), rfl, rr.to s6, bare_da bO2 (DaAll.strs _), lv_lot (fun x m => nmz x ?_) ll, fun H7 s7 => q H7 ((s35.trans s6).trans s7)⟩
      rcases List.mem_append.mp m with z | z
      · exact List.mem_of_mem_drop z
      · exact List.mem_of_mem_take z
    · have m : nmAt ys k ∈ ks.map (nmAt ys) := List.mem_map.mpr ⟨k, List.mem_of_getElem? hki, rfl⟩
      have w : inNm (.str (nmAt ys k)) (ks.map (nmAt ys)) = true := decide_eq_true m
      rw [w] at z
      cases z
end
end Th
namespace Th
open PySem PySem.Spec PyProof.Rows L2
abbrev s_l_fields : Stmt := topS 34
theorem sc_l_fields : FnScope ["_law_e"] ["_law_e"] (defScope s_l_fields) := ⟨rfl, rfl, rfl, by decide +kernel, rfl, by decide +kernel, by decide +kernel⟩
def vlC : List Str := ["InvalidName", "InvalidNumber"]
def atC : List Str := ["InvalidLot", "InvalidFind", "InvalidWord", "InvalidOrder"]
def nameC : List Str := ["UnknownFind", "Same", "DuplicateName", "UnknownName"]
def manyC : List Str := ["TooMany", "TooFew"]
def lotC : List Str := ["UnknownNode", "NotABlock"]
/-- the fields that are told of an error -/
def fldsOf (code : Str) : List Str := if code ∈ vlC then ["value"] else if code ∈ atC then ["at"] else if code ∈ nameC then ["name"] else if code ∈ manyC then (if code = "TooMany" then ["most"] else ["least"]) else if code ∈ lotC then ["lot"] else if code = "CannotStand" then ["one", "two", "three"] else []
def FlA (code : Str) (fs : List (Str × V)) (ws : List V) : Prop := (fldsOf code).map (fun n => fs.lookup n) = ws.map some
theorem fl_one {o : Option V} {ws : List V} (h : [o] = ws.map some) : ∃ v, o = some v ∧ ws = [v] := by
  cases ws with
  | nil => cases h
  | cons v r =>
    cases r with
    | nil => exact ⟨v, (List.cons.inj h).1, rfl⟩
    | cons _ _ => cases (List.cons.inj h).2
theorem dec_str {x y : Str} : decide (V.str x = V.str y) = decide (x = y) := by
  rw [Bool.eq_iff_iff, decide_eq_true_eq, decide_eq_true_eq]
  exact ⟨fun h => V.str.inj h, fun h => by rw [h]⟩
theorem fld_of {K : PySem.W.Frag} {mg : Str → Option Value} {code : Str} {fs : List (Str × V)} {C dd : Addr} {H : Hp} (E : IsExc K mg code fs (.ref C) (some dd) H) : XfC K C ∧ (∀ (f : Str) v, fs.lookup f = some v → PySem.W.findIn K (.ref C) f = some none) ∧ H dd = some (.xd fs) := by
  obtain ⟨⟨C', dd', e1, e2, T, nf, e, _⟩, _⟩ := E
  cases e1
  cases e2
  exact ⟨T, fun f v l => nf f (List.mem_map.mpr ⟨(f, v), PySem.mem_of_lookup l, rfl⟩), e⟩
section
variable {P : Program} {w : World} {K : PySem.W.Frag} {mg : Str → Option Value} {base : Heap}
theorem has_l_fields (Z : Zs mg) (A : At K mg "_law_fields" s_l_fields ["_law_e"]) : HasQ P w K mg base "_law_fields" s_l_fields 1 ["_law_e"] (spFields K mg FlA) := by
  obtain ⟨f, fd, F, mg1, bd⟩ := A
  refine ⟨f, fd, ?_, mg1, F.kp, bd, F⟩
  refine quiet_ok F sc_l_fields (fun p vs H Q E h => ?_) (fun cdv A outer s H vs Q E p hr h => ?_)
  · obtain ⟨C, dd, code, fs, ws, rfl, _⟩ := h
    rfl
  · obtain ⟨C, dd, code, fs, ws, rfl, PX, X, fl, lw, q⟩ := h
    refine ⟨_, (pss_cons (ps_if (pt_cmpR op_in_seq (pe_pinf (p := p) List.mem_cons_self (pv 0)) (pe_tup (pa_cons pe_str (pa_cons pe_str pa_nil))) (by rfl)) (pss_one (ps_ret (pe_tup (pa_cons (pe_pinf (p := p) List.mem_cons_self (pv 0)) pa_nil)))) pss_nil) (pss_cons (ps_if (pt_cmpR op_in_seq (pe_pinf (p := p) List.mem_cons_self (pv 0)) (pe_tup (pa_cons pe_str (pa_cons pe_str (pa_cons pe_str (pa_cons pe_str pa_nil))))) (by rfl)) (pss_one (ps_ret (pe_tup (pa_cons (pe_pinf (p := p) List.mem_cons_self (pv 0)) pa_nil)))) pss_nil) (pss_cons (ps_if (pt_cmpR op_in_seq (pe_pinf (p := p) List.mem_cons_self (pv 0)) (pe_tup (pa_cons pe_str (pa_cons pe_str (pa_cons pe_str (pa_cons pe_str pa_nil))))) (by rfl)) (pss_one (ps_ret (pe_tup (pa_cons (pe_pinf (p := p) List.mem_cons_self (pv 0)) pa_nil)))) pss_nil) (pss_cons (ps_if (pt_cmpR op_in_seq (pe_pinf (p := p) List.mem_cons_self (pv 0)) (pe_tup (pa_cons pe_str (pa_cons pe_str pa_nil))) (by rfl)) (pss_one (ps_ret (pe_ifExp (pt_cmpR op_eq (pe_pinf (p := p) List.mem_cons_self (pv 0)) pe_str (nomark _)) (pe_tup (pa_cons (pe_pinf (p := p) List.mem_cons_self (pv 0)) pa_nil)) (pe_tup (pa_cons (pe_pinf (p := p) List.mem_cons_self (pv 0)) pa_nil))))) pss_nil) (pss_cons (ps_if (pt_cmpR op_in_seq (pe_pinf (p := p) List.mem_cons_self (pv 0)) (pe_tup (pa_cons pe_str (pa_cons pe_str pa_nil))) (by rfl)) (pss_one (ps_ret (pe_tup (pa_cons (pe_pinf (p := p) List.mem_cons_self (pv 0)) pa_nil)))) pss_nil) (pss_one (ps_ret (pe_ifExp (pt_cmpR op_eq (pe_pinf (p := p) List.mem_cons_self (pv 0)) pe_str (nomark _)) (pe_tup (pa_cons (pe_pinf (p := p) List.mem_cons_self (pv 0)) (pa_cons (pe_pinf (p := p) List.mem_cons_self (pv 0)) (pa_cons (pe_pinf (p := p) List.mem_cons_self (pv 0)) pa_nil)))) (pe_tup pa_nil))))))))), ?_⟩
    obtain ⟨T, nf, ed⟩ := fld_of X
    have lc := X.code
    have hin : ∀ (xs : List Str), inV (V.str code) (xs.map V.str) = decide (code ∈ xs) := fun xs => inS code xs
    have s0 := Same.refl H
    unfold FlA fldsOf at fl
    refine ⟨_, rfl, rfl, C, dd, fs, _, PX, T, nf _ _ lc, s0 _ _ ed, lc, (by show 2 ≤ sizeLine; decide), fun t1 n1 => ⟨t1, _, rfl, .inr (.inl (.inl upd_same)), rfl, rfl, _, rfl, ?_⟩⟩
    have s1 := s0.trans (same_new (o := .tup (vlC.map V.str)) n1)
    rw [if_neg Bool.false_ne_true, show inV (V.str code) [V.str "InvalidName", V.str "InvalidNumber"] = decide (code ∈ vlC) from hin vlC]
    refine ite2 (fun c1 => ?_) (fun c1 => ?_)
    · rw [if_pos (of_decide_eq_true c1)] at fl
      obtain ⟨v, l, rfl⟩ := fl_one fl
      exact ⟨_, rfl, rfl, C, dd, fs, _, PX, T, nf _ _ l, s1 _ _ ed, l, (by show 1 ≤ sizeLine; decide), fun r nr => q r _ (s1.trans (same_new nr)) (s1.free nr) upd_same⟩
    rw [if_neg (fun z => c1 (decide_eq_true z))] at fl
    refine ⟨_, rfl, rfl, C, dd, fs, _, PX, T, nf _ _ lc, s1 _ _ ed, lc, (by show 4 ≤ sizeLine; decide), fun t2 n2 => ⟨t2, _, rfl, .inr (.inl (.inl upd_same)), rfl, rfl, _, rfl, ?_⟩⟩
    have s2 := s1.trans (same_new (o := .tup (atC.map V.str)) n2)
    rw [if_neg Bool.false_ne_true, show inV (V.str code) [V.str "InvalidLot", V.str "InvalidFind", V.str "InvalidWord", V.str "InvalidOrder"] = decide (code ∈ atC) from hin atC]
    refine ite2 (fun c2 => ?_) (fun c2 => ?_)
    · rw [if_pos (of_decide_eq_true c2)] at fl
      obtain ⟨v, l, rfl⟩ := fl_one fl
      exact ⟨_, rfl, rfl, C, dd, fs, _, PX, T, nf _ _ l, s2 _ _ ed, l, (by show 1 ≤ sizeLine; decide), fun r nr => q r _ (s2.trans (same_new nr)) (s2.free nr) upd_same⟩
    rw [if_neg (fun z => c2 (decide_eq_true z))] at fl
    refine ⟨_, rfl, rfl, C, dd, fs, _, PX, T, nf _ _ lc, s2 _ _ ed, lc, (by show 4 ≤ sizeLine; decide), fun t3 n3 => ⟨t3, _, rfl, .inr (.inl (.inl upd_same)), rfl, rfl, _, rfl, ?_⟩⟩
    have s3 := s2.trans (same_new (o := .tup (nameC.map V.str)) n3)
    rw [if_neg Bool.false_ne_true, show inV (V.str code) [V.str "UnknownFind", V.str "Same", V.str "DuplicateName", V.str "UnknownName"] = decide (code ∈ nameC) from hin nameC]
    refine ite2 (fun c3 => ?_) (fun c3 => ?_)
    · rw [if_pos (of_decide_eq_true c3)] at fl
      obtain ⟨v, l, rfl⟩ := fl_one fl
      exact ⟨_, rfl, rfl, C, dd, fs, _, PX, T, nf _ _ l, s3 _ _ ed, l, (by show 1 ≤ sizeLine; decide), fun r nr => q r _ (s3.trans (same_new nr)) (s3.free nr) upd_same⟩
    rw [if_neg (fun z => c3 (decide_eq_true z))] at fl
    refine ⟨_, rfl, rfl, C, dd, fs, _, PX, T, nf _ _ lc, s3 _ _ ed, lc, (by show 2 ≤ sizeLine; decide), fun t4 n4 => ⟨t4, _, rfl, .inr (.inl (.inl upd_same)), rfl, rfl, _, rfl, ?_⟩⟩
    have s4 := s3.trans (same_new (o := .tup (manyC.map V.str)) n4)
    rw [if_neg Bool.false_ne_true, show inV (V.str code) [V.str "TooMany", V.str "TooFew"] = decide (code ∈ manyC) from hin manyC]
    refine ite2 (fun c4 => ?_) (fun c4 => ?_)
    · rw [if_pos (of_decide_eq_true c4)] at fl
      refine ⟨_, rfl, rfl, C, dd, fs, _, PX, T, nf _ _ lc, s4 _ _ ed, lc, rfl, _, rfl, ?_⟩
      rw [dec_str]
      refine ite2 (fun c => ?_) (fun c => ?_)
      · rw [if_pos (of_decide_eq_true c)] at fl
        obtain ⟨v, l, rfl⟩ := fl_one fl
        exact ⟨_, rfl, rfl, C, dd, fs, _, PX, T, nf _ _ l, s4 _ _ ed, l, (by show 1 ≤ sizeLine; decide), fun r nr => q r _ (s4.trans (same_new nr)) (s4.free nr) upd_same⟩
      · rw [if_neg (fun z => c (decide_eq_true z))] at fl
        obtain ⟨v, l, rfl⟩ := fl_one fl
        exact ⟨_, rfl, rfl, C, dd, fs, _, PX, T, nf _ _ l, s4 _ _ ed, l, (by show 1 ≤ sizeLine; decide), fun r nr => q r _ (s4.trans (same_new nr)) (s4.free nr) upd_same⟩
    rw [if_neg (fun z => c4 (decide_eq_true z))] at fl
    refine ⟨_, rfl, rfl, C, dd, fs, _, PX, T, nf _ _ lc, s4 _ _ ed, lc, (by show 2 ≤ sizeLine; decide), fun t5 n5 => ⟨t5, _, rfl, .inr (.inl (.inl upd_same)), rfl, rfl, _, rfl, ?_⟩⟩
    have s5 := s4.trans (same_new (o := .tup (lotC.map V.str)) n5)
    rw [if_neg Bool.false_ne_true, show inV (V.str code) [V.str "UnknownNode", V.str "NotABlock"] = decide (code ∈ lotC) from hin lotC]
    refine ite2 (fun c5 => ?_) (fun c5 => ?_)
    · rw [if_pos (of_decide_eq_true c5)] at fl
      obtain ⟨v, l, rfl⟩ := fl_one fl
      exact ⟨_, rfl, rfl, C, dd, fs, _, PX, T, nf _ _ l, s5 _ _ ed, l, (by show 1 ≤ sizeLine; decide), fun r nr => q r _ (s5.trans (same_new nr)) (s5.free nr) upd_same⟩
    rw [if_neg (fun z => c5 (decide_eq_true z))] at fl
    refine ⟨_, rfl, rfl, C, dd, fs, _, PX, T, nf _ _ lc, s5 _ _ ed, lc, rfl, _, rfl, ?_⟩
    rw [dec_str]
    refine ite2 (fun c => ?_) (fun c => ?_)
    · rw [if_pos (of_decide_eq_true c)] at fl
      cases ws with
      | nil => cases fl
      | cons v1 r1 =>
        cases r1 with
        | nil => cases (List.cons.inj fl).2
        | cons v2 r2 =>
          cases r2 with
          | nil => cases (List.cons.inj (List.cons.inj fl).2).2
          | cons v3 r3 =>
            cases r3 with
            | cons _ _ => cases (List.cons.inj (List.cons.inj (List.cons.inj fl).2).2).2
            | nil =>
              have l1 := (List.cons.inj fl).1
              have l2 := (List.cons.inj (List.cons.inj fl).2).1
              have l3 := (List.cons.inj (List.cons.inj (List.cons.inj fl).2).2).1
              exact ⟨_, rfl, rfl, C, dd, fs, _, PX, T, nf _ _ l1, s5 _ _ ed, l1, _, rfl, rfl, C, dd, fs, _, PX, T, nf _ _ l2, s5 _ _ ed, l2, _, rfl, rfl, C, dd, fs, _, PX, T, nf _ _ l3, s5 _ _ ed, l3, (by show 3 ≤ sizeLine; decide), fun r nr => q r _ (s5.trans (same_new nr)) (s5.free nr) upd_same⟩
    · rw [if_neg (fun z => c (decide_eq_true z))] at fl
      have ew : ws = [] := List.map_eq_nil_iff.mp fl.symm
      subst ew
      exact ⟨Nat.zero_le _, fun r nr => q r _ (s5.trans (same_new nr)) (s5.free nr) upd_same⟩
end
end Th
namespace Th
open PySem PySem.Spec PyProof.Rows L2
abbrev s_l_try : Stmt := topS 35
theorem sc_l_try : FnScope ["_law_ask", "_law_told", "_law_e"] ["_law_ask"] (defScope s_l_try) := ⟨rfl, rfl, rfl, by decide +kernel, rfl, by decide +kernel, by decide +kernel⟩

theorem gives_l_try {X : Cx} {c1 c2 : Addr} (hr : Room 4 X.A) (hm1 : X.mg "FindError" = some (.ref c1)) (hm2 : X.mg "Missing" = some (.ref c2)) (h_l_fields : HasQ X.prog X.w X.K X.mg X.base "_law_fields" s_l_fields 1 ["_law_e"] (spFields X.K X.mg FlA)) {g : Addr} {cdg : Value} {q : Str} :
    LamX.GivesTo X ["_law_ask", "_law_told", "_law_e"] "_law_try" (defScope s_l_try) g cdg (defBody s_l_try) "_law_ask" q (TTold X.K X.mg FlA) := by
  obtain ⟨f_l_fields, fd_l_fields, G_l_fields, m_l_fields, k_l_fields, b_l_fields, F_l_fields⟩ := h_l_fields
  intro f c' s H Q tl act hc h
  have hrq : Room 1 (X.A.deeper (envOfC "_law_try" (defScope s_l_try) s.heap.objs.size g cdg)) := (hr.deeper _).mono (by decide)
  refine ⟨_, pss_cons (ps_set (i := 1) sc_l_try.nd rfl (Or.inl rfl) (pe_tup (pa_cons pe_str (pa_cons pe_non pa_nil)))) (pss_cons (ps_try_two (i := 2)
      (tb := fun W D σ H => ∃ Ech : XK, (∀ cls d σ' H', Ech cls d H' → W cls d σ' H') ∧ ∃ Q0, (σ[0]? = some (some (.ref f)) ∧ H c' = some (LamX.CodeO c' q) ∧ tl Ech H Q0) ∧ ∀ v H1, Q0 v H1 → ([.str "", v] : List V).length ≤ sizeLine ∧ ∀ p, H1 p = none → D.nx (σ.set 1 (some (.ref p))) (upd H1 p (.tup [.str "", v])))
      (ts := fun a cls d => tAsg (tTup (tCons (tPinA X.K 2 a cls d "code") (tCons (tFieldsA X.K X.mg FlA 2 a cls d) tNil))) (gName 1))
      rfl rfl sc_l_try.nd rfl rfl (by rfl) (by decide) hm1 (by rfl) (by decide) hm2 (fun W pn xe tk => ?_) (fun a oe cls d pn hz hf => ?_)) (pss_one (ps_ret (pv 1)))), ?_⟩
  · refine ⟨fun pins s' σ H' D I h' => ?_⟩
    obtain ⟨Ech, hW, h'⟩ := h'
    exact (pss_one (ps_set (i := 1) sc_l_try.nd rfl (Or.inl rfl) (pe_tup (pa_cons pe_str (pa_cons (pe_up (act W pn xe Ech _ _ tk hW)) pa_nil))))).run pins s' σ H' D I h'
  · exact pss_one (ps_set (i := 1) sc_l_try.nd rfl (Or.inl rfl) (pe_tup (pa_cons (pe_pinA (i := 2) List.mem_cons_self hz hf (pv 2)) (pa_cons
        (pe_fieldsA (i := 2) List.mem_cons_self hz hf G_l_fields ⟨hrq.dp, hrq.un⟩ (by rfl) m_l_fields k_l_fields b_l_fields (pa_cons (pv 2) pa_nil)) pa_nil))))
  · refine ⟨(by show 2 ≤ sizeLine; decide), fun p0 n0 => ?_⟩
    have s0 := same_new (o := .tup [.str "", .non]) n0
    refine ⟨_, fun cls d σ' H' hE => ?_, _, ⟨rfl, s0 _ _ hc, h p0 n0⟩, fun v H1 hq => ⟨(by show 2 ≤ sizeLine; decide), fun p np => ⟨_, rfl, hq p _ (same_new np) upd_same⟩⟩⟩
    obtain ⟨code, fs, ws, X1, fl, lw, hq⟩ := hE
    obtain ⟨C, dd, rfl, rfl, T, nf, ed, ca⟩ := X1.ex
    have l1 : fs.lookup ("code" : Str) = some (V.str code) := X1.code
    refine ⟨ca c1 c2 hm1 hm2, fun a na hl => ?_⟩
    have at2 : (σ'.set 2 (some (V.ref a)))[2]? = some (some (V.ref a)) := List.getElem?_set_self hl
    refine ⟨at2, C, dd, fs, _, rfl, rfl, T, nf _ (List.mem_map.mpr ⟨_, PySem.mem_of_lookup l1, rfl⟩), ed, l1, ?_⟩
    refine ⟨at2, C, dd, code, fs, ws, rfl, rfl, X1, fl, lw, fun u H2 s2 nu eu => ⟨(by show 2 ≤ sizeLine; decide), fun r nr => ?_⟩⟩
    have er : (upd H2 r (.tup [.str code, .ref u])) r = some (.tup [.str code, .ref u]) := upd_same
    refine ⟨_, ?_, hq r u _ (s2.trans (same_new nr)) (by rw [upd_ne (ne_of_none eu nr)]; exact eu) er⟩
    rw [List.getElem?_set_ne (by decide), List.getElem?_set_self (by rw [List.length_set]; omega)]
end Th
namespace Th
open PySem PySem.Spec PyProof.Rows L2
abbrev s_l_raises : Stmt := topS 36
theorem sc_l_raises : FnScope ["_law_ask", "_law_due"] ["_law_ask", "_law_due"] (defScope s_l_raises) := ⟨rfl, rfl, rfl, by decide +kernel, rfl, by decide +kernel, by decide +kernel⟩

def TRais (K : PySem.W.Frag) (mg : Str → Option Value) : (XK → Hp → VK → Prop) → V → Hp → VK → Prop := fun tl v H Q => TTold K mg FlA tl H fun w H1 => spSm K 6 [w, v] H1 Q E0
theorem gives2_l_raises {X : Cx} {c1 c2 : Addr} {k : Nat} (h5 : 5 ≤ k) (hr : Room (k + 3) X.A) (hm1 : X.mg "FindError" = some (.ref c1)) (hm2 : X.mg "Missing" = some (.ref c2)) (h_l_fields : HasQ X.prog X.w X.K X.mg X.base "_law_fields" s_l_fields 1 ["_law_e"] (spFields X.K X.mg FlA))
    (h_l_same : Has X.prog X.w X.K X.mg X.base "_law_same" s_l_same 6 ["_law_found", "_law_due"] (spSm X.K 6)) (A_l_try : At X.K X.mg "_law_try" s_l_try ["_law_ask"]) {g : Addr} {cdg : Value} {q : Str} (tl : XK → Hp → VK → Prop) (f c' : Addr) :
    Gives2 k X ["_law_ask", "_law_due"] "_law_raises" (defScope s_l_raises) g cdg (defBody s_l_raises) q tl f c' (TRais X.K X.mg) := by
  obtain ⟨f_l_same, fd_l_same, G_l_same, m_l_same, k_l_same, b_l_same, F_l_same⟩ := h_l_same
  obtain ⟨f_l_try, fd_l_try, F_l_try, m_l_try, b_l_try⟩ := A_l_try
  intro s H Q v act hc tt
  obtain ⟨oc, od, kV, doc, pm, an, cdv, ct, osl, rfl, lk, hco⟩ := F_l_try.ex
  have hr1 : Room (k + 2) (X.A.deeper (envOfC "_law_raises" (defScope s_l_raises) s.heap.objs.size g cdg)) := hr.deeper _
  refine ⟨_, pss_one (ps_ret (pe_call G_l_same (hr1.mono (by omega : 6 ≤ k + 2)) (by rfl) m_l_same k_l_same b_l_same .nil pass0 (pa_cons (pe_up (pe_handed (i := 0) (k := k + 1) (tl := tl) (f := f) (c' := c') (q := q) (by rfl) m_l_try F_l_try.kp lk hco b_l_try sc_l_try
      (gives_l_try (X := (cxOf CX0 X.prog X.w X.K X.mg X.base ["_law_ask", "_law_due"] "_law_raises" (defScope s_l_raises) g cdg X.A X.stack s H E0).nox) (hr1.mono (by omega : 4 ≤ k + 2)) hm1 hm2 h_l_fields) hr1 (fun pins σ s1 H1 J W pn xe E p1 p2 tk hW => act (fun HZ h u => un_two J.base u (Nat.le_refl _)) tk hW (hr1.deeper _) rfl (Or.inl rfl) (by decide) (by decide)) (pv 0))) (pa_cons (pv 1) pa_nil)))), ?_⟩
  exact ⟨_, ⟨rfl, hc, tt⟩, fun w H1 hq => ⟨_, rfl, hq⟩⟩
end Th
namespace Th
open PySem PySem.Spec PyProof.Rows L2
abbrev s_p_law : Stmt := topS 43
theorem sc_p_law : FnScope ["_law_script", "_law_bag_here", "_law_many", "_law_every", "_law_names_here", "_law_name", "_law_given", "_law_kept", "_law_ring", "_law_k", "_law_told", "_law_arcs_here", "_law_whole", "_law_again", "_law_value", "_law_bits", "_law_first", "_law_at"] ["_law_script"] (defScope s_p_law) := ⟨rfl, rfl, rfl, by decide +kernel, rfl, by decide +kernel, by decide +kernel⟩
theorem least_of {m : Nat} {P : Nat → Prop} (dP : ∀ p, P p ∨ ¬ P p) : (∃ p, p < m ∧ P p) → ∃ lo, lo < m ∧ P lo ∧ ∀ p, p < m → P p → lo ≤ p := by
  induction m with
  | zero => exact fun ⟨p, h, _⟩ => absurd h (Nat.not_lt_zero p)
  | succ m ih =>
    rintro ⟨p, h, hp⟩
    by_cases z : ∃ p, p < m ∧ P p
    · obtain ⟨lo, a, b, c⟩ := ih z
      refine ⟨lo, by omega, b, fun q hq hP => ?_⟩
      by_cases e : q < m
      · exact c q e hP
      · omega
    · have : p = m := by
        rcases Nat.lt_or_ge p m with w | w
        · exact absurd ⟨p, w, hp⟩ z
        · omega
      subst this
      refine ⟨p, by omega, hp, fun q hq hP => ?_⟩
      rcases Nat.lt_or_ge q p with w | w
      · exact absurd ⟨q, w, hP⟩ z
      · exact w
theorem most_of {m : Nat} {P : Nat → Prop} (dP : ∀ p, P p ∨ ¬ P p) : (∃ p, p < m ∧ P p) → ∃ hi, hi < m ∧ P hi ∧ ∀ p, p < m → P p → p ≤ hi := by
  induction m with
  | zero => exact fun ⟨p, h, _⟩ => absurd h (Nat.not_lt_zero p)
  | succ m ih =>
    rintro ⟨p, h, hp⟩
    rcases dP m with z | z
    · exact ⟨m, by omega, z, fun q hq _ => by omega⟩
    · have hpm : p < m := by
        rcases Nat.lt_or_ge p m with w | w
        · exact w
        · have : p = m := by omega
          rw [this] at hp
          exact absurd hp z
      obtain ⟨hi, a, b, c⟩ := ih ⟨p, hpm, hp⟩
      refine ⟨hi, by omega, b, fun q hq hP => ?_⟩
      by_cases e : q < m
      · exact c q e hP
      · have : q = m := by omega
        rw [this] at hP
        exact absurd hP z
/-- without a gap -/
def Iv (m : Nat) (P : Nat → Prop) : Prop := ∀ i j k, i ≤ j → j ≤ k → k < m → P i → P k → P j
def ArcP (m : Nat) (P : Nat → Prop) (a j : Nat) : Prop := ∀ p, p < m → (P p ↔ (a ≤ p ∧ p ≤ a + j) ∨ p + m ≤ a + j)
theorem iv_arc {m : Nat} {P : Nat → Prop} (dP : ∀ p, P p ∨ ¬ P p) (ne : ∃ p, p < m ∧ P p) : (Iv m P ∨ Iv m fun p => ¬ P p) ↔ ∃ a j, a < m ∧ j < m ∧ ArcP m P a j := by
  constructor
  · rintro (iv | iv)
    · obtain ⟨lo, l1, l2, l3⟩ := least_of dP ne
      obtain ⟨hi, h1, h2, h3⟩ := most_of dP ne
      have := l3 hi h1 h2
      refine ⟨lo, hi - lo, l1, by omega, fun p hp => ⟨fun z => ?_, fun z => ?_⟩⟩
      · have := l3 p hp z
        have := h3 p hp z
        exact .inl ⟨by omega, by omega⟩
      · rcases z with ⟨z1, z2⟩ | z
        · exact iv lo p hi z1 (by omega) h1 l2 h2
        · omega
    · by_cases al : ∃ p, p < m ∧ ¬ P p
      · have dN : ∀ p, ¬ P p ∨ ¬ ¬ P p := fun p => (dP p).symm.imp id fun z w => w z
        obtain ⟨lo, l1, l2, l3⟩ := least_of dN al
        obtain ⟨hi, h1, h2, h3⟩ := most_of dN al
        have hle := l3 hi h1 h2
        have char : ∀ p, p < m → (P p ↔ p < lo ∨ hi < p) := fun p hp => by
          constructor
          · intro z
            rcases Nat.lt_or_ge p lo with w | w
            · exact .inl w
            · rcases Nat.lt_or_ge hi p with w2 | w2
              · exact .inr w2
              · exact absurd z (iv lo p hi w w2 h1 l2 h2)
          · intro z
            rcases dP p with w | w
            · exact w
            · have := l3 p hp w
              have := h3 p hp w
              omega
        by_cases e : hi + 1 < m
        · refine ⟨hi + 1, m - 2 - hi + lo, e, by omega, fun p hp => ?_⟩
          rw [char p hp]
          omega
        · obtain ⟨p0, hp0, hP0⟩ := ne
          have := (char p0 hp0).mp hP0
          refine ⟨0, lo - 1, by omega, by omega, fun p hp => ?_⟩
          rw [char p hp]
          omega
      · obtain ⟨p0, hp0, _⟩ := ne
        refine ⟨0, m - 1, by omega, by omega, fun p hp => ⟨fun _ => .inl ⟨by omega, by omega⟩, fun _ => ?_⟩⟩
        rcases dP p with w | w
        · exact w
        · exact absurd ⟨p, hp, w⟩ al
  · rintro ⟨a, j, ha, hj, arc⟩
    rcases Nat.lt_or_ge (a + j) m with w | w
    · refine .inl fun x y z h1 h2 h3 hx hz => ?_
      have e1 := (arc x (by omega)).mp hx
      have e2 := (arc z h3).mp hz
      refine (arc y (by omega)).mpr ?_
      omega
    · refine .inr fun x y z h1 h2 h3 hx hz hy => ?_
      have e0 := (arc y (by omega)).mp hy
      have e1 : ¬ ((a ≤ x ∧ x ≤ a + j) ∨ x + m ≤ a + j) := fun k => hx ((arc x (by omega)).mpr k)
      have e2 : ¬ ((a ≤ z ∧ z ≤ a + j) ∨ z + m ≤ a + j) := fun k => hz ((arc z h3).mpr k)
      omega
theorem iv_congr {m : Nat} {P Q : Nat → Prop} (h : ∀ p, p < m → (P p ↔ Q p)) : Iv m P ↔ Iv m Q := ⟨fun iv i j k a b c d e => (h j (by omega)).mp (iv i j k a b c ((h i (by omega)).mpr d) ((h k c).mpr e)), fun iv i j k a b c d e => (h j (by omega)).mpr (iv i j k a b c ((h i (by omega)).mp d) ((h k c).mp e))⟩
theorem test_foldl (l : List Nat) : ∀ (s k : Nat), (l.foldl (fun s k => s ||| 2 ^ k) s).testBit k = (s.testBit k || decide (k ∈ l)) := by
  induction l with
  | nil => intro s k; simp
  | cons x r ih =>
    intro s k
    rw [List.foldl_cons, ih, test_two, Bool.or_assoc]
    congr 1
    rw [Bool.eq_iff_iff, Bool.or_eq_true, decide_eq_true_eq, decide_eq_true_eq, decide_eq_true_eq, List.mem_cons]
    exact ⟨fun z => z.elim (fun e => .inl e.symm) .inr, fun z => z.elim (fun e => .inl e.symm) .inr⟩
theorem test_orAll (l : List Nat) (k : Nat) : (orAll l).testBit k = decide (k ∈ l) := by
  unfold orAll
  rw [test_foldl, Nat.zero_testBit, Bool.false_or]
/-- a place in a turned list -/
theorem rot_mem {ks : List Nat} (nd : ks.Nodup) {a j p k : Nat} (ha : a < ks.length) (hj : j < ks.length) (hk : ks[p]? = some k) : k ∈ (rotL ks a).take (j + 1) ↔ (a ≤ p ∧ p ≤ a + j) ∨ p + ks.length ≤ a + j := by
  have hp := lt_of_get hk
  have at1 : ∀ i, i < ks.length - a → (rotL ks a)[i]? = ks[a + i]? := fun i hi => by
    unfold rotL
    rw [List.getElem?_append_left (by rw [List.length_drop]; exact hi), List.getElem?_drop]
  have at2 : ∀ i, ks.length - a ≤ i → i < ks.length → (rotL ks a)[i]? = ks[i - (ks.length - a)]? := fun i hi h2 => by
    unfold rotL
    rw [List.getElem?_append_right (by rw [List.length_drop]; exact hi), List.length_drop, List.getElem?_take]
    rw [if_pos (by omega)]
  constructor
  · intro h
    obtain ⟨i, hi⟩ := List.getElem?_of_mem h
    rw [List.getElem?_take] at hi
    by_cases hij : i < j + 1
    · rw [if_pos hij] at hi
      by_cases z : i < ks.length - a
      · rw [at1 i z] at hi
        have := nodup_at nd hk hi
        exact .inl ⟨by omega, by omega⟩
      · rw [at2 i (by omega) (by omega)] at hi
        have := nodup_at nd hk hi
        exact .inr (by omega)
    · rw [if_neg hij] at hi
      cases hi
  · intro h
    have fin : ∀ i, i ≤ j → (rotL ks a)[i]? = some k → k ∈ (rotL ks a).take (j + 1) := fun i hi e => by
      refine List.mem_of_getElem? (i := i) ?_
      rw [List.getElem?_take, if_pos (by omega)]
      exact e
    rcases h with ⟨h1, h2⟩ | h
    · exact fin (p - a) (by omega) (by rw [at1 _ (by omega), show a + (p - a) = p by omega]; exact hk)
    · exact fin (p + ks.length - a) (by omega) (by rw [at2 _ (by omega) (by omega), show p + ks.length - a - (ks.length - a) = p by omega]; exact hk)
/-- a ring's numbers -/
structure RingK (ks : List Nat) (m : Nat) : Prop where
  nd : ks.Nodup
  lt : ∀ k ∈ ks, k < m
  len : ks.length = m
theorem RingK.all {ks : List Nat} {m : Nat} (h : RingK ks m) {k : Nat} (hk : k < m) : k ∈ ks := by
  have sub : ∀ x ∈ ks, x ∈ List.range m := fun x hx => List.mem_range.mpr (h.lt x hx)
  have p := perm_of_sub h.nd sub (by rw [List.length_range, h.len])
  exact p.mem_iff.mp (List.mem_range.mpr hk)
def atK (ks : List Nat) (b p : Nat) : Prop := b.testBit (ks.getD p 0) = true
theorem atK_iff {ks : List Nat} {b p k : Nat} (h : ks[p]? = some k) : atK ks b p ↔ b.testBit k = true := by
  unfold atK
  rw [List.getD_eq_getElem?_getD, h]
  exact Iff.rfl
theorem bits_arc {ks : List Nat} {m b a j : Nat} (h : RingK ks m) (hb : b < 2 ^ m) (ha : a < m) (hj : j < m) : b = orAll ((rotL ks a).take (j + 1)) ↔ ArcP m (atK ks b) a j := by
  have len := h.len
  constructor
  · intro e p hp
    obtain ⟨k, hk⟩ : ∃ k, ks[p]? = some k := ⟨_, List.getElem?_eq_getElem (by omega)⟩
    rw [atK_iff hk, e, test_orAll, decide_eq_true_eq, rot_mem h.nd (by omega) (by omega) hk, len]
  · intro arc
    refine Nat.eq_of_testBit_eq fun k => ?_
    rw [test_orAll]
    by_cases hk : k < m
    · obtain ⟨p, hp⟩ := List.getElem?_of_mem (h.all hk)
      have hpl := lt_of_get hp
      rw [Bool.eq_iff_iff, decide_eq_true_eq, rot_mem h.nd (by omega) (by omega) hp, ← atK_iff hp, len]
      exact arc p (by omega)
    · rw [Nat.testBit_lt_two_pow (Nat.lt_of_lt_of_le hb (Nat.pow_le_pow_right (by decide) (by omega)))]
      refine (decide_eq_false fun z => ?_).symm
      have := h.lt k (rotL_mem (List.mem_of_mem_take z))
      omega
/-- gaps by places -/
theorem gaps_at {xs zs : List Str} {P : Nat → Prop} (dP : ∀ p, P p ∨ ¬ P p) (hP : ∀ p x, xs[p]? = some x → (x ∈ zs ↔ P p)) (ne : ∃ p, p < xs.length ∧ P p) : ∃ gs, IsGaps xs zs gs ∧ (gs = [] ↔ Iv xs.length P) := by
  obtain ⟨lo, l1, l2, l3⟩ := least_of dP ne
  obtain ⟨hi, h1, h2, h3⟩ := most_of dP ne
  obtain ⟨x1, e1⟩ : ∃ x, xs[lo]? = some x := ⟨_, List.getElem?_eq_getElem l1⟩
  obtain ⟨x2, e2⟩ : ∃ x, xs[hi]? = some x := ⟨_, List.getElem?_eq_getElem h1⟩
  refine ⟨((xs.take hi).drop lo).filter fun x => !decide (x ∈ zs), ⟨lo, hi, ⟨x1, (hP lo x1 e1).mpr l2, e1⟩, ⟨x2, (hP hi x2 e2).mpr h2, e2⟩, fun k z hz e => ?_, rfl⟩, ?_⟩
  · have hk := lt_of_get e
    have := (hP k z e).mp hz
    exact ⟨l3 k hk this, h3 k hk this⟩
  · rw [List.filter_eq_nil_iff]
    constructor
    · intro h i j k hij hjk hk hi' hk'
      have a1 := l3 i (by omega) hi'
      have a2 := h3 k hk hk'
      by_cases z : j = hi
      · rw [z]; exact h2
      · obtain ⟨x, ex⟩ : ∃ x, xs[j]? = some x := ⟨_, List.getElem?_eq_getElem (by omega)⟩
        have mem : x ∈ (xs.take hi).drop lo := by
          refine List.mem_of_getElem? (i := j - lo) ?_
          rw [List.getElem?_drop, List.getElem?_take, if_pos (by omega), show lo + (j - lo) = j by omega]
          exact ex
        have := h x mem
        simp only [Bool.not_eq_true', decide_eq_false_iff_not, Classical.not_not] at this
        exact (hP j x ex).mp this
    · intro iv x hx
      obtain ⟨i, hi'⟩ := List.getElem?_of_mem hx
      rw [List.getElem?_drop, List.getElem?_take] at hi'
      by_cases z : lo + i < hi
      · rw [if_pos z] at hi'
        have := (hP (lo + i) x hi').mpr (iv lo (lo + i) hi (by omega) (by omega) h1 l2 h2)
        simp [this]
      · rw [if_neg z] at hi'
        cases hi'
theorem arcB_iff {xs zs : List Str} {c : Bool} {P : Nat → Prop} (dP : ∀ p, P p ∨ ¬ P p) (hP : ∀ p x, xs[p]? = some x → (x ∈ zs ↔ P p)) (ne : ∃ p, p < xs.length ∧ P p) (h : ArcB xs zs c) : c = true ↔ (Iv xs.length P ∨ Iv xs.length fun p => ¬ P p) := by
  have dN : ∀ p, ¬ P p ∨ ¬ ¬ P p := fun p => (dP p).symm.imp id fun z w => w z
  rcases h with ⟨e, rfl⟩ | ⟨ne2, h⟩
  · refine ⟨fun _ => .inl fun i j k hij hjk hk _ _ => ?_, fun _ => rfl⟩
    obtain ⟨x, ex⟩ : ∃ x, xs[j]? = some x := ⟨_, List.getElem?_eq_getElem (by omega)⟩
    rw [List.filter_eq_nil_iff] at e
    have := e x (List.mem_of_getElem? ex)
    simp only [Bool.not_eq_true', decide_eq_false_iff_not, Classical.not_not] at this
    exact (hP j x ex).mp this
  · have ne3 : ∃ p, p < xs.length ∧ ¬ P p := by
      cases hf : xs.filter (fun x => !decide (x ∈ zs)) with
      | nil => exact absurd hf ne2
      | cons x r =>
        have m : x ∈ xs.filter (fun x => !decide (x ∈ zs)) := by rw [hf]; exact List.mem_cons_self
        obtain ⟨m1, m2⟩ := List.mem_filter.mp m
        obtain ⟨p, hp⟩ := List.getElem?_of_mem m1
        refine ⟨p, lt_of_get hp, fun z => ?_⟩
        have := (hP p x hp).mpr z
        simp [this] at m2
    obtain ⟨gs, g1, g2⟩ := gaps_at dP hP ne
    obtain ⟨hs, k1, k2⟩ := gaps_at (zs := xs.filter fun x => !decide (x ∈ zs)) dN (fun p x hx => by
      rw [List.mem_filter, ← hP p x hx]
      simp only [Bool.not_eq_true', decide_eq_false_iff_not]
      exact ⟨fun z => z.2, fun z => ⟨List.mem_of_getElem? hx, z⟩⟩) ne3
    rw [h gs hs g1 k1, Bool.or_eq_true, decide_eq_true_eq, decide_eq_true_eq, g2, k2]

theorem perm_inv {α : Type} {f : α → V} {g : V → α} (h : ∀ x, g (f x) = x) {ys : List V} {xs : List α} (p : ys.Perm (xs.map f)) : ∃ zs : List α, ys = zs.map f ∧ zs.Perm xs := by
  have e : (xs.map f).map g = xs := by
    rw [List.map_map, show (g ∘ f) = id from funext h, List.map_id]
  refine ⟨ys.map g, ?_, by have q := p.map g; rw [e] at q; exact q⟩
  rw [List.map_map]
  have : ∀ y ∈ ys, (f ∘ g) y = y := fun y hy => by
    obtain ⟨x, _, rfl⟩ := List.mem_map.mp (p.mem_iff.mp hy)
    show f (g (f x)) = f x
    rw [h]
  exact ((List.map_congr_left this).trans (List.map_id _)).symm
/-- what stands where -/
structure A5 (D : DS) where
  e : Addr
  n : Addr
  g : Addr
  k : Addr
  r : Addr
  t : Addr
  ne : e ≠ D.p ∧ n ≠ D.p ∧ g ≠ D.p ∧ k ≠ D.p ∧ r ≠ D.p ∧ t ≠ D.p
structure W5 {D : DS} (A : A5 D) (es ys gs : List Str) (ks : List Nat) (T : List (Addr × Str)) (H : Hp) : Prop where
  d : Drw D H
  e : H A.e = some (.lst (es.map V.str))
  n : H A.n = some (.lst (ys.map V.str))
  g : H A.g = some (.lst (gs.map V.str))
  k : H A.k = some (.lst (gs.map V.str))
  r : H A.r = some (.lst (ks.map fun k => V.int (k : Nat)))
  t : BareT H A.t ((ks.map (nmAt ys)).map V.str)
  tb : LamX.Tabs T H
section
variable {D : DS} {A : A5 D} {es ys gs : List Str} {ks : List Nat} {T : List (Addr × Str)} {H H' : Hp}
theorem W5.go (w : W5 A es ys gs ks T H) (g : Go D H H') : W5 A es ys gs ks T H' := by
  obtain ⟨d, e, n, g', k, r, ⟨o, et, b⟩, tb⟩ := w
  obtain ⟨n1, n2, n3, n4, n5, n6⟩ := A.ne
  exact ⟨g.st, g.old n1 e, g.old n2 n, g.old n3 g', g.old n4 k, g.old n5 r, ⟨o, g.old n6 et, b⟩, Tabs.go tb d g⟩
theorem W5.sm (w : W5 A es ys gs ks T H) (s : Same H H') : W5 A es ys gs ks T H' := w.go (Go.of w.d s)
theorem W5.ext (w : W5 A es ys gs ks T H) (x : LamX.ExtN H H') (t : LamX.Tabs T H') : W5 A es ys gs ks T H' := by
  obtain ⟨d, e, n, g, k, r, ⟨o, et, b⟩, tb⟩ := w
  exact ⟨(keepD_ext x).drw d, keepD_ext x _ _ e (plain_lst _), keepD_ext x _ _ n (plain_lst _), keepD_ext x _ _ g (plain_lst _), keepD_ext x _ _ k (plain_lst _), keepD_ext x _ _ r (plain_lst _), ⟨o, keepD_ext x _ _ et (plain_frz _ _), b⟩, t⟩
end
theorem lvn_bls {bs : List Bool} (h : bs.length ≤ 60) : LvN 6 (.list (bs.map .bool)) := ⟨by rw [List.length_map]; exact h, fun x hx => by
  obtain ⟨b, _, rfl⟩ := List.mem_map.mp hx
  trivial⟩
def spLawT (K : PySem.W.Frag) (Pt : Addr) : Sp := fun vs H Q _ => ∃ (a : Addr) (ns : List Int), vs = [.ref a] ∧ SqL K H a (ns.map V.int) ∧ ns.length ≤ 63 ∧ H Pt = some (.tbl #[]) ∧ ∀ H', Q (.bl true) H'
section
variable {P : Program} {w : World} {K : PySem.W.Frag} {mg : Str → Option Value} {base : Heap}
theorem has_p_law {f c Pt c1 c2 : Addr} {fd : FuncData} (Z : Zs mg) (F : Fun K "law" "law" s_p_law f fd) (hc : fd.code = .ref c) (TB : LamX.TabB base mg c Pt) (hm1 : mg "FindError" = some (.ref c1)) (hm2 : mg "Missing" = some (.ref c2)) (h_l_bag : Has P w K mg base "_law_bag" s_l_bag 1 ["_law_script"] (spBag K)) (h_l_draw : Has P w K mg base "_law_draw" s_l_draw 1 ["_law_bag_here", "_law_many"] (spDraw)) (h_l_pick : Has P w K mg base "_law_pick" s_l_pick 2 ["_law_bag_here", "_law_things"] (spPick2 K)) (h_l_size : Has P w K mg base "_law_size" s_l_size 3 ["_law_bag_here", "_law_most"] (spSize)) (h_l_names : Has P w K mg base "_law_names" s_l_names 3 ["_law_bag_here", "_law_many"] (spNames K)) (h_l_mixed : Has P w K mg base "_law_mixed" s_l_mixed 2 ["_law_bag_here", "_law_things"] (spShuffle K)) (h_l_order : Has P w K mg base "_law_order" s_l_order 1 ["_law_names_here", "_law_order_here"] (spOrderOf K)) (h_l_arcs : Has P w K mg base "_law_arcs" s_l_arcs 1 ["_law_order_here"] (spArcs K)) (h_l_same : Has P w K mg base "_law_same" s_l_same 6 ["_law_found", "_law_due"] (spSm K 6)) (h_p_is_ring_order : Has P w K mg base "is_ring_order" s_p_is_ring_order 4 ["finds", "value"] (spRingO K)) (h_l_bent_ring : Has P w K mg base "_law_bent_ring" s_l_bent_ring 4 ["_law_bag_here", "_law_order_here", "_law_stranger"] (spBentR K)) (h_l_is_ring : Has P w K mg base "_law_is_ring" s_l_is_ring 2 ["_law_names_here", "_law_value"] (spRingL K)) (h_l_some_lots : Has P w K mg base "_law_some_lots" s_l_some_lots 2 ["_law_bag_here", "_law_many", "_law_most"] (spSomeLots)) (h_p_is_arc : Has P w K mg base "is_arc" s_p_is_arc 9 ["order", "lot"] (spArc K)) (h_l_lot : Has P w K mg base "_law_lot" s_l_lot 1 ["_law_names_here", "_law_bits"] (spLotBits K)) (h_l_opened_so : Has P w K mg base "_law_opened_so" s_l_opened_so 11 ["_law_ring", "_law_names_here", "_law_at"] (spOpenSo K)) (h_l_odd_thing : Has P w K mg base "_law_odd_thing" s_l_odd_thing 3 ["_law_bag_here", "_law_good"] (spOddT K)) (h_p_opened : HasX P w K mg base "opened" s_p_opened 10 ["order", "name"] (spOpened K mg)) (h_l_fields : HasQ P w K mg base "_law_fields" s_l_fields 1 ["_law_e"] (spFields K mg FlA)) (A_l_try : At K mg "_law_try" s_l_try ["_law_ask"]) (A_l_raises : At K mg "_law_raises" s_l_raises ["_law_ask", "_law_due"]) : FnOk P w K mg base CX0 14 f fd ["_law_script"] (spLawT K Pt) := by
  have hh_l_same := h_l_same
  have AA_l_try := A_l_try
  obtain ⟨f_l_bag, fd_l_bag, G_l_bag, m_l_bag, k_l_bag, b_l_bag, F_l_bag⟩ := h_l_bag
  obtain ⟨f_l_draw, fd_l_draw, G_l_draw, m_l_draw, k_l_draw, b_l_draw, F_l_draw⟩ := h_l_draw
  obtain ⟨f_l_pick, fd_l_pick, G_l_pick, m_l_pick, k_l_pick, b_l_pick, F_l_pick⟩ := h_l_pick
  obtain ⟨f_l_size, fd_l_size, G_l_size, m_l_size, k_l_size, b_l_size, F_l_size⟩ := h_l_size
  obtain ⟨f_l_names, fd_l_names, G_l_names, m_l_names, k_l_names, b_l_names, F_l_names⟩ := h_l_names
  obtain ⟨f_l_mixed, fd_l_mixed, G_l_mixed, m_l_mixed, k_l_mixed, b_l_mixed, F_l_mixed⟩ := h_l_mixed
  obtain ⟨f_l_order, fd_l_order, G_l_order, m_l_order, k_l_order, b_l_order, F_l_order⟩ := h_l_order
  obtain ⟨f_l_arcs, fd_l_arcs, G_l_arcs, m_l_arcs, k_l_arcs, b_l_arcs, F_l_arcs⟩ := h_l_arcs
  obtain ⟨f_l_same, fd_l_same, G_l_same, m_l_same, k_l_same, b_l_same, F_l_same⟩ := h_l_same
  obtain ⟨f_p_is_ring_order, fd_p_is_ring_order, G_p_is_ring_order, m_p_is_ring_order, k_p_is_ring_order, b_p_is_ring_order, F_p_is_ring_order⟩ := h_p_is_ring_order
  obtain ⟨f_l_bent_ring, fd_l_bent_ring, G_l_bent_ring, m_l_bent_ring, k_l_bent_ring, b_l_bent_ring, F_l_bent_ring⟩ := h_l_bent_ring
  obtain ⟨f_l_is_ring, fd_l_is_ring, G_l_is_ring, m_l_is_ring, k_l_is_ring, b_l_is_ring, F_l_is_ring⟩ := h_l_is_ring
  obtain ⟨f_l_some_lots, fd_l_some_lots, G_l_some_lots, m_l_some_lots, k_l_some_lots, b_l_some_lots, F_l_some_lots⟩ := h_l_some_lots
  obtain ⟨f_p_is_arc, fd_p_is_arc, G_p_is_arc, m_p_is_arc, k_p_is_arc, b_p_is_arc, F_p_is_arc⟩ := h_p_is_arc
  obtain ⟨f_l_lot, fd_l_lot, G_l_lot, m_l_lot, k_l_lot, b_l_lot, F_l_lot⟩ := h_l_lot
  obtain ⟨f_l_opened_so, fd_l_opened_so, G_l_opened_so, m_l_opened_so, k_l_opened_so, b_l_opened_so, F_l_opened_so⟩ := h_l_opened_so
  obtain ⟨f_l_odd_thing, fd_l_odd_thing, G_l_odd_thing, m_l_odd_thing, k_l_odd_thing, b_l_odd_thing, F_l_odd_thing⟩ := h_l_odd_thing
  obtain ⟨f_p_opened, fd_p_opened, G_p_opened, m_p_opened, k_p_opened, b_p_opened, F_p_opened⟩ := h_p_opened
  obtain ⟨f_l_try, fd_l_try, F_l_try, m_l_try, b_l_try⟩ := A_l_try
  obtain ⟨f_l_raises, fd_l_raises, F_l_raises, m_l_raises, b_l_raises⟩ := A_l_raises
  refine okC F hc sc_p_law (fun vs H Q E h => ?_) (fun A outer s H vs Q E hr h => ?_)
  · obtain ⟨a, ns, rfl, _⟩ := h
    rfl
  · obtain ⟨a, ns, rfl, hS, hlen, hPt, q⟩ := h
    refine ⟨_, (pss_cons (ps_set (i := 1) sc_p_law.nd rfl (Or.inl rfl) (pe_call G_l_bag (hr.mono (by decide)) (by rfl) m_l_bag k_l_bag b_l_bag .nil pass0 (pa_cons (pv 0) pa_nil))) (pss_cons (ps_set (i := 2) sc_p_law.nd rfl (Or.inl rfl) (pe_callB (call_max2 rfl) (by rfl) Z.max_ (by decide +kernel) (pa_cons pe_int (pa_cons (pe_callTy call_int1 (by rfl) Z.int_ (by decide +kernel) (pa_cons (pe_call G_l_size (hr.mono (by decide)) (by rfl) m_l_size k_l_size b_l_size .nil pass0 (pa_cons (pv 1) (pa_cons (pe_call G_l_pick (hr.mono (by decide)) (by rfl) m_l_pick k_l_pick b_l_pick .nil pass0 (pa_cons (pv 1) (pa_cons (pe_lst (pa_cons pe_int (pa_cons pe_int (pa_cons pe_int (pa_cons pe_int pa_nil))))) pa_nil))) pa_nil))) pa_nil)) pa_nil)))) (pss_cons (ps_set (i := 3) sc_p_law.nd rfl (Or.inl rfl) (pe_call G_l_names (hr.mono (by decide)) (by rfl) m_l_names k_l_names b_l_names .nil pass0 (pa_cons (pv 1) (pa_cons (pe_op op_add (pv 2) pe_int) pa_nil)))) (pss_cons (ps_set (i := 4) sc_p_law.nd rfl (Or.inr rfl) (pe_callB cr_sortedS (by rfl) Z.sorted_ (by decide +kernel) (pa_cons (pe_lc (own := [("_law_name", 5)]) (g := gName 5) (by rfl) sc_p_law.nd (pi_list (pe_slice sl_list (pv 3) (po_some pe_int) po_none)) (blkOk_by (own := [("_law_name", 5)]) (N := ["_law_script", "_law_bag_here", "_law_many", "_law_every", "_law_names_here", "_law_name", "_law_given", "_law_kept", "_law_ring", "_law_k", "_law_told", "_law_arcs_here", "_law_whole", "_law_again", "_law_value", "_law_bits", "_law_first", "_law_at"]) (sc := defScope s_p_law) (by decide +kernel)) (fun _ _ _ _ _ => pg_name (i := 5) sc_p_law.nd rfl (Or.inl rfl)) (fun _ _ _ _ _ => pts_nil) (fun _ _ _ _ _ => (pe_callTy SkE.call_str_str (by rfl) Z.str_ (by decide +kernel) (pa_cons (pv 5) pa_nil)))) pa_nil))) (pss_cons (ps_set (i := 6) sc_p_law.nd rfl (Or.inl rfl) (pe_call G_l_mixed (hr.mono (by decide)) (by rfl) m_l_mixed k_l_mixed b_l_mixed .nil pass0 (pa_cons (pv 1) (pa_cons (pv 4) pa_nil)))) (pss_cons (ps_set (i := 7) sc_p_law.nd rfl (Or.inl rfl) (pe_callTy call_list_of (by rfl) Z.list_ (by decide +kernel) (pa_cons (pv 6) pa_nil))) (pss_cons (ps_set (i := 8) sc_p_law.nd rfl (Or.inr rfl) (pe_op op_cat (pe_lst (pa_cons pe_int pa_nil)) (pe_lc (own := [("_law_k", 9)]) (g := gName 9) (by rfl) sc_p_law.nd (pi_list (pe_call G_l_mixed (hr.mono (by decide)) (by rfl) m_l_mixed k_l_mixed b_l_mixed .nil pass0 (pa_cons (pv 1) (pa_cons (pe_listRg rfl (by rfl) Z.list_ (prg_1 (by rfl) Z.range_ (pe_op op_sub (pv 2) pe_int))) pa_nil)))) (blkOk_by (own := [("_law_k", 9)]) (N := ["_law_script", "_law_bag_here", "_law_many", "_law_every", "_law_names_here", "_law_name", "_law_given", "_law_kept", "_law_ring", "_law_k", "_law_told", "_law_arcs_here", "_law_whole", "_law_again", "_law_value", "_law_bits", "_law_first", "_law_at"]) (sc := defScope s_p_law) (by decide +kernel)) (fun _ _ _ _ _ => pg_name (i := 9) sc_p_law.nd rfl (Or.inl rfl)) (fun _ _ _ _ _ => pts_nil) (fun _ _ _ _ _ => (pe_op op_add (pv 9) pe_int))))) (pss_cons (ps_asg (pe_tup (pa_cons (pe_call G_l_order (hr.mono (by decide)) (by rfl) m_l_order k_l_order b_l_order .nil pass0 (pa_cons (pv 4) (pa_cons (pv 8) pa_nil))) (pa_cons (pe_call G_l_arcs (hr.mono (by decide)) (by rfl) m_l_arcs k_l_arcs b_l_arcs .nil pass0 (pa_cons (pv 8) pa_nil)) (pa_cons (pe_op op_sub (pe_op op_oneShl pe_int (pv 2)) pe_int) pa_nil)))) (pg_tup (by rfl) (pgs_cons (pg_name (i := 10) sc_p_law.nd rfl (Or.inr rfl)) (pgs_cons (pg_name (i := 11) sc_p_law.nd rfl (Or.inl rfl)) (pgs_cons (pg_name (i := 12) sc_p_law.nd rfl (Or.inl rfl)) pgs_nil))))) (pss_cons (ps_if (pt_not (pt_val (pe_call G_l_same (hr.mono (by decide)) (by rfl) m_l_same k_l_same b_l_same .nil pass0 (pa_cons (pe_lst (pa_cons (pe_call G_p_is_ring_order (hr.mono (by decide)) (by rfl) m_p_is_ring_order k_p_is_ring_order b_p_is_ring_order .nil pass0 (pa_cons (pv 6) (pa_cons (pv 10) pa_nil))) (pa_cons (pe_call G_p_is_ring_order (hr.mono (by decide)) (by rfl) m_p_is_ring_order k_p_is_ring_order b_p_is_ring_order .nil pass0 (pa_cons (pv 6) (pa_cons (pe_op op_catD (pe_slice sl_tupD (pv 10) po_none (po_some (pe_un un_neg pe_int))) (pe_tup (pa_cons (pe_lst (pa_cons (pe_ix ix_tup (pv 10) (pe_un un_neg pe_int) (fun _ _ => rfl)) pa_nil)) pa_nil))) pa_nil))) pa_nil))) (pa_cons (pe_lst (pa_cons pe_bl (pa_cons pe_bl pa_nil))) pa_nil))))) (pss_one (ps_ret pe_bl)) pss_nil) (pss_cons (ps_for PassesOwn.never rfl (pi_range1 (by rfl) Z.range_ (pa_cons pe_int pa_nil)) (pg_name (i := 13) sc_p_law.nd rfl (Or.inl rfl)) (pss_cons (ps_set (i := 14) sc_p_law.nd rfl (Or.inr rfl) (pe_call G_l_bent_ring (hr.mono (by decide)) (by rfl) m_l_bent_ring k_l_bent_ring b_l_bent_ring .nil pass0 (pa_cons (pv 1) (pa_cons (pv 10) (pa_cons (pe_ix ix_list (pv 3) pe_int (fun _ _ => rfl)) pa_nil))))) (pss_one (ps_if (pt_not (pt_val (pe_call G_l_same (hr.mono (by decide)) (by rfl) m_l_same k_l_same b_l_same .nil pass0 (pa_cons (pe_call G_p_is_ring_order (hr.mono (by decide)) (by rfl) m_p_is_ring_order k_p_is_ring_order b_p_is_ring_order .nil pass0 (pa_cons (pe_ifExp (pt_cmpR op_eq (pv 13) pe_int (nomark _)) (pe_callTy call_tuple_of (by rfl) Z.tuple_ (by decide +kernel) (pa_cons (pv 6) pa_nil)) (pv 6)) (pa_cons (pv 14) pa_nil))) (pa_cons (pe_call G_l_is_ring (hr.mono (by decide)) (by rfl) m_l_is_ring k_l_is_ring b_l_is_ring .nil pass0 (pa_cons (pv 4) (pa_cons (pv 14) pa_nil))) pa_nil))))) (pss_one (ps_ret pe_bl)) pss_nil)))) (pss_cons (ps_for PassesOwn.never rfl (pi_list (pe_call G_l_some_lots (hr.mono (by decide)) (by rfl) m_l_some_lots k_l_some_lots b_l_some_lots .nil pass0 (pa_cons (pv 1) (pa_cons (pv 2) (pa_cons pe_int pa_nil))))) (pg_name (i := 15) sc_p_law.nd rfl (Or.inl rfl)) (pss_cons (ps_set (i := 16) sc_p_law.nd rfl (Or.inl rfl) (pe_call G_p_is_arc (hr.mono (by decide)) (by rfl) m_p_is_arc k_p_is_arc b_p_is_arc .nil pass0 (pa_cons (pv 10) (pa_cons (pe_call G_l_lot (hr.mono (by decide)) (by rfl) m_l_lot k_l_lot b_l_lot .nil pass0 (pa_cons (pv 4) (pa_cons (pv 15) pa_nil))) pa_nil)))) (pss_cons (ps_if (pt_not (pt_val (pe_call G_l_same (hr.mono (by decide)) (by rfl) m_l_same k_l_same b_l_same .nil pass0 (pa_cons (pv 16) (pa_cons (pe_cmpR op_eq (pe_op op_odd (pe_op op_shrN (pv 11) (pv 15)) pe_int) pe_int (nomark _)) pa_nil))))) (pss_one (ps_ret pe_bl)) pss_nil) (pss_one (ps_if (PW.pt (pw_and (pt_cmpR op_ne (pv 15) (pv 12) (nomark _)) (pw_and1 (pt_not (pt_val (pe_call G_l_same (hr.mono (by decide)) (by rfl) m_l_same k_l_same b_l_same .nil pass0 (pa_cons (pe_call G_p_is_arc (hr.mono (by decide)) (by rfl) m_p_is_arc k_p_is_arc b_p_is_arc .nil pass0 (pa_cons (pv 10) (pa_cons (pe_call G_l_lot (hr.mono (by decide)) (by rfl) m_l_lot k_l_lot b_l_lot .nil pass0 (pa_cons (pv 4) (pa_cons (pe_op op_sub (pv 12) (pv 15)) pa_nil))) pa_nil))) (pa_cons (pv 16) pa_nil)))))))) (pss_one (ps_ret pe_bl)) pss_nil))))) (pss_cons (ps_if (pt_not (pt_val (pe_callB (cr_all rfl) (by rfl) Z.all_ (by decide +kernel) (pa_cons (pe_lc (own := [("_law_at", 17)]) (g := gName 17) (by rfl) sc_p_law.nd (pi_range1 (by rfl) Z.range_ (pa_cons (pv 2) pa_nil)) (blkOk_by (own := [("_law_at", 17)]) (N := ["_law_script", "_law_bag_here", "_law_many", "_law_every", "_law_names_here", "_law_name", "_law_given", "_law_kept", "_law_ring", "_law_k", "_law_told", "_law_arcs_here", "_law_whole", "_law_again", "_law_value", "_law_bits", "_law_first", "_law_at"]) (sc := defScope s_p_law) (by decide +kernel)) (fun _ _ _ _ _ => pg_name (i := 17) sc_p_law.nd rfl (Or.inl rfl)) (fun _ _ _ _ _ => pts_nil) (fun _ _ _ _ _ => (pe_call G_l_opened_so (hr.mono (by decide)) (by rfl) m_l_opened_so k_l_opened_so b_l_opened_so .nil pass0 (pa_cons (pv 8) (pa_cons (pv 4) (pa_cons (pv 17) pa_nil)))))) pa_nil)))) (pss_one (ps_ret pe_bl)) pss_nil) (pss_cons (ps_for PassesOwn.never rfl (pi_list (pe_lst (pa_cons (pe_ix ix_list (pv 3) pe_int (fun _ _ => rfl)) (pa_cons (pe_call G_l_odd_thing (hr.mono (by decide)) (by rfl) m_l_odd_thing k_l_odd_thing b_l_odd_thing .nil pass0 (pa_cons (pv 1) (pa_cons (pe_ix ix_list (pv 4) pe_int (fun _ _ => rfl)) pa_nil))) (pa_cons (pv 4) pa_nil))))) (pg_name (i := 14) sc_p_law.nd rfl (Or.inr rfl)) (pss_one (ps_if (pt_not (pt_val (pe_raises (k := 10) F_l_raises m_l_raises b_l_raises (by rfl) sc_l_raises (fun _ tl f c' => gives2_l_raises (by decide) (hr.mono (by decide)) hm1 hm2 h_l_fields hh_l_same AA_l_try tl f c') TB rfl (hr.mono (by decide)) (show LamX.LamS (defScope s_p_law) _ from LamX.lamS_by (by decide +kernel)) rfl rfl rfl (fun _ _ _ _ _ => rfl) (fun A outer s H E f c' hr' => by exact (pe_call G_p_opened (hr'.mono (by decide)) (by rfl) m_p_opened k_p_opened b_p_opened .nil (passes_call (takes_of rfl rfl rfl rfl) fun _ _ _ _ h => h) (pa_cons (pv 10) (pa_cons (pv 14) pa_nil)))) (pe_tup (pa_cons pe_str (pa_cons (pe_tup (pa_cons (pv 14) pa_nil)) pa_nil)))))) (pss_one (ps_ret pe_bl)) pss_nil))) (pss_one (ps_ret (pe_cmpR (op_eqD hr.units) (pv 6) (pv 7) (nomark _))))))))))))))))), ?_⟩
    refine ⟨_, rfl, a, ns, rfl, hS, hlen, fun H1 D s1 np nl d => ?_⟩
    -- how many
    refine ⟨_, rfl, _, rfl, by show 4 ≤ sizeLine; decide, fun q1 n1 => .inl ?_⟩
    have g1 := Go.of d (same_new (o := .lst [.int 5, .int 6, .int 6, .int 12]) n1)
    refine ⟨D, q1, _, rfl, g1.st, sqh (d.ne_new n1) upd_same, by show 0 < 4; decide, by show 4 ≤ 1000; decide, fun i v H2 hv g2 => ?_⟩
    obtain ⟨nn, rfl, hn0, hn1⟩ : ∃ n : Int, v = .int n ∧ 4 ≤ n ∧ n ≤ 12 := by
      rcases List.mem_cons.mp (List.mem_of_getElem? hv) with e | m
      · exact ⟨_, e, by omega, by omega⟩
      · rcases List.mem_cons.mp m with e | m
        · exact ⟨_, e, by omega, by omega⟩
        · rcases List.mem_cons.mp m with e | m
          · exact ⟨_, e, by omega, by omega⟩
          · exact ⟨_, List.mem_singleton.mp m, by omega, by omega⟩
    refine ⟨D, nn, rfl, g2.st, hn0, by omega, fun r H3 r1 r2 g3 => .inl ⟨r, rfl, 2, r, rfl, ?_⟩⟩
    obtain ⟨m, em, m2, m12⟩ : ∃ m : Nat, (if r > 2 then r else 2) = (m : Int) ∧ 2 ≤ m ∧ m ≤ 12 := by
      by_cases z : r > 2
      · exact ⟨r.toNat, by rw [if_pos z]; omega, by omega, by omega⟩
      · exact ⟨2, by rw [if_neg z]; rfl, by omega, by omega⟩
    rw [em]
    have gA := (g1.trans g2).trans g3
    clear g1 g2 g3 hv n1 em r1 r2 hn0 hn1
    -- the names
    refine ⟨_, rfl, _, rfl, _, _, rfl, rfl, D, _, rfl, gA.st, by omega, by omega, fun EA es H4 nms eln nEA eEA g4 => ?_⟩
    have pEA := gA.st.ne_new nEA
    have gB := gA.trans g4
    clear g4 nEA
    refine ⟨_, rfl, 1, rfl, EA, _, rfl, .inl (.inl eEA), fun S nS => ?_⟩
    have s5 := same_new (o := .lst (cutV (es.map V.str) (some 1) none)) nS
    have eS : (upd H4 S (.lst (cutV (es.map V.str) (some 1) none))) S = some (.lst ((es.drop 1).map V.str)) := by rw [upd_same, show (1 : Int) = ((1 : Nat) : Int) from rfl, cut_fromL _ (by rw [List.length_map]; omega), List.map_drop]
    generalize upd H4 S (.lst (cutV (es.map V.str) (some 1) none)) = H5 at s5 eS ⊢
    have gC := gB.trans (Go.of gB.st s5)
    have eEA5 := s5 _ _ eEA
    refine ⟨S, rfl, ⟨_, .inl (.inl eS)⟩, fun L nL => ?_⟩
    refine lc_list (K := K) (a := S) (xs := (es.drop 1).map V.str) (fun i H' => Same H5 H' ∧ H' L = some (.lst (((es.drop 1).take i).map V.str))) ⟨same_new nL, upd_same⟩ (fun i H' _ z => .inl (.inl (z.1 _ _ eS))) ?_ ?_
    · rintro i y H' hi ⟨s6, e6⟩
      obtain ⟨x, hx, rfl⟩ := getmap hi
      have hxl := lt_of_get hx
      rw [List.length_drop] at hxl
      refine ⟨rfl, _, rfl, x, rfl, _, e6, slineL (by rw [List.length_map, List.length_take]; omega), same_mut s6 nL, ?_⟩
      rw [upd_same, take_succ_map hx]
    rintro H6 ⟨s6, e6⟩
    rw [List.length_map, List.take_length] at e6
    have gD := gC.trans (Go.of gC.st s6)
    refine ⟨L, es.drop 1, rfl, .inl (.inl e6), by rw [List.length_drop]; omega, fun ys NA pm so nNA => ?_⟩
    have pNA := gD.st.ne_new nNA
    have s7 := same_new (o := .lst (ys.map V.str)) nNA
    have eNA : (upd H6 NA (.lst (ys.map V.str))) NA = some (.lst (ys.map V.str)) := upd_same
    have eEA7 := s7 _ _ (s6 _ _ eEA5)
    have gE := gD.trans (Go.of gD.st s7)
    generalize upd H6 NA (.lst (ys.map V.str)) = H7 at s7 eNA eEA7 gE ⊢
    clear s5 s6 s7 e6 nL nS eS gC gD
    obtain ⟨e0, et, ees⟩ : ∃ e0 et, es = e0 :: et := by
      cases es with
      | nil => rw [List.length_nil] at eln; omega
      | cons x t => exact ⟨_, _, rfl⟩
    have edrop : es.drop 1 = et := by rw [ees]; rfl
    rw [edrop] at pm
    have lys : ys.length = m := by
      rw [pm.length_eq]
      rw [ees, List.length_cons] at eln
      omega
    have nmsE := nms
    rw [ees] at nmsE
    have nmy : Nms ys := ⟨pm.nodup_iff.mpr (List.nodup_cons.mp nmsE.1).2, fun x hx => nmsE.2 x (List.mem_cons_of_mem _ (pm.mem_iff.mp hx))⟩
    have ne0 : e0 ∉ ys := fun z => (List.nodup_cons.mp nmsE.1).1 (pm.mem_iff.mp z)
    have nm0 : isNm e0 = true := nmsE.2 e0 List.mem_cons_self
    have nys : ys ≠ [] := fun z => by rw [z] at lys; rw [List.length_nil] at lys; omega
    have lym : (ys.map V.str).length = ys.length := List.length_map _
    -- the names, given in any order
    refine ⟨_, rfl, _, rfl, D, NA, ys.map V.str, rfl, gE.st, sqh pNA eNA, by omega, fun GA gv H8 pmg nGA eGA g8 => ?_⟩
    obtain ⟨gs, rfl, pg⟩ := perm_strs pmg
    have pGA := gE.st.ne_new nGA
    have gF := gE.trans g8
    have eNA8 := g8.old pNA eNA
    have eEA8 := g8.old pEA eEA7
    refine ⟨_, rfl, GA, _, rfl, .inl (.inl (.inl eGA)), fun KA nKA => ?_⟩
    have pKA := gF.st.ne_new nKA
    have s9 := same_new (o := .lst (gs.map V.str)) nKA
    have eKA : (upd H8 KA (.lst (gs.map V.str))) KA = some (.lst (gs.map V.str)) := upd_same
    have eGA9 := s9 _ _ eGA
    have eNA9 := s9 _ _ eNA8
    have eEA9 := s9 _ _ eEA8
    have gG := gF.trans (Go.of gF.st s9)
    generalize upd H8 KA (.lst (gs.map V.str)) = H9 at s9 eKA eGA9 eNA9 eEA9 gG ⊢
    clear g8 s9 eNA8 eEA8 eGA eEA7 eNA gE gF
    -- the ring
    refine ⟨by show 1 ≤ sizeLine; decide, fun Z nZ => ?_⟩
    have sA := same_new (o := .lst [.int 0]) nZ
    have eZ : (upd H9 Z (.lst [.int 0])) Z = some (.lst [.int 0]) := upd_same
    have gH := gG.trans (Go.of gG.st sA)
    have eKA1 := sA _ _ eKA
    have eGA1 := sA _ _ eGA9
    have eNA1 := sA _ _ eNA9
    have eEA1 := sA _ _ eEA9
    have pZ := gG.st.ne_new nZ
    generalize upd H9 Z (.lst [.int 0]) = HA at sA eZ gH eKA1 eGA1 eNA1 eEA1 ⊢
    refine ⟨_, rfl, _, rfl, _, _, rfl, rfl, _, rfl, RgOk.of_le (by decide) (by omega) (by decide) (by omega), fun X1 nX1 => ?_⟩
    have sB := same_new (o := .lst (rgV 0 ((m : Int) - 1))) nX1
    have gI := gH.trans (Go.of gH.st sB)
    have pX1 := gH.st.ne_new nX1
    have lrg : (rgV 0 ((m : Int) - 1)).length = m - 1 := by rw [rgV_length]; omega
    refine ⟨D, X1, rgV 0 ((m : Int) - 1), rfl, gI.st, sqh pX1 upd_same, by omega, fun PA pv HC pmr nPA ePA gC => ?_⟩
    obtain ⟨pk, epk, ppk⟩ := perm_inv (f := fun (i : Nat) => V.int (0 + (i : Int))) (g := fun v => match v with | .int z => z.toNat | _ => 0) (fun x => by show (0 + (x : Int)).toNat = x; omega) (show pv.Perm ((List.range ((m : Int) - 1 - 0).toNat).map fun (i : Nat) => V.int (0 + (i : Int))) from pmr)
    subst epk
    rw [show ((m : Int) - 1 - 0).toNat = m - 1 by omega] at ppk
    have pPA := gI.st.ne_new nPA
    have gJ := gI.trans gC
    have eZC := gC.old pZ (sB _ _ eZ)
    have eKA2 := gC.old pKA (sB _ _ eKA1)
    have eGA2 := gC.old pGA (sB _ _ eGA1)
    have eNA2 := gC.old pNA (sB _ _ eNA1)
    have eEA2 := gC.old pEA (sB _ _ eEA1)
    refine ⟨PA, rfl, ⟨_, .inl (.inl ePA)⟩, fun L2 nL2 => ?_⟩
    refine lc_list (K := K) (a := PA) (xs := pk.map fun (i : Nat) => V.int (0 + (i : Int))) (fun i H' => Same HC H' ∧ H' L2 = some (.lst (((pk.map (· + 1)).take i).map fun k => V.int (k : Nat)))) ⟨same_new nL2, upd_same⟩ (fun i H' _ z => .inl (.inl (z.1 _ _ ePA))) ?_ ?_
    · rintro i y H' hi ⟨s6, e6⟩
      obtain ⟨k, hk, rfl⟩ := getmap hi
      have hkl := lt_of_get hk
      have lpk := ppk.length_eq
      rw [List.length_range] at lpk
      refine ⟨rfl, _, rfl, _, _, rfl, rfl, _, e6, slineL (by rw [List.length_map, List.length_take, List.length_map]; omega), same_mut s6 nL2, ?_⟩
      rw [upd_same, take_succ_map (f := fun k => V.int (k : Nat)) (x := k + 1) (by rw [List.getElem?_map, hk]; rfl)]
      show some (HO.lst (_ ++ [V.int ((0 + (k : Int)) + 1)])) = some (HO.lst (_ ++ [V.int ((k + 1 : Nat) : Int)]))
      rw [show (0 + (k : Int)) + 1 = ((k + 1 : Nat) : Int) by omega]
    rintro HD ⟨sD, eL2⟩
    rw [List.length_map, List.take_of_length_le (by rw [List.length_map]; exact Nat.le_refl _)] at eL2
    have gK := gJ.trans (Go.of gJ.st sD)
    have lpk := ppk.length_eq
    rw [List.length_range] at lpk
    refine ⟨Z, L2, _, _, rfl, rfl, sD _ _ eZC, eL2, sline (by rw [List.length_map, List.length_map]; show 1 + pk.length ≤ 100000; omega), fun RA nRA => ?_⟩
    have pRA := gK.st.ne_new nRA
    have er0 : ([V.int 0] ++ (pk.map (· + 1)).map fun k => V.int (k : Nat)) = ((0 :: pk.map (· + 1)).map fun k => V.int (k : Nat)) := rfl
    rw [er0]
    have rk : RingK (0 :: pk.map (· + 1)) m := by
      refine ⟨List.nodup_cons.mpr ⟨fun z => ?_, ?_⟩, fun k hk => ?_, by rw [List.length_cons, List.length_map]; omega⟩
      · obtain ⟨x, _, e⟩ := List.mem_map.mp z
        omega
      · refine List.pairwise_map.mpr (List.Pairwise.imp_of_mem (R := fun a b => a ≠ b) (fun {a b} _ _ n e => n (by omega)) (ppk.nodup_iff.mpr List.nodup_range))
      · rcases List.mem_cons.mp hk with e | h
        · omega
        · obtain ⟨x, hx, rfl⟩ := List.mem_map.mp h
          have := List.mem_range.mp (ppk.mem_iff.mp hx)
          omega
    have hks : ∃ t, (0 :: pk.map (· + 1)) = 0 :: t := ⟨_, rfl⟩
    generalize 0 :: pk.map (· + 1) = ks at rk hks ⊢
    have sE := same_new (o := .lst (ks.map fun k => V.int (k : Nat))) nRA
    have eRA : (upd HD RA (.lst (ks.map fun k => V.int (k : Nat)))) RA = some (.lst (ks.map fun k => V.int (k : Nat))) := upd_same
    have sDE := sD.trans sE
    have eKA3 := sDE _ _ eKA2
    have eGA3 := sDE _ _ eGA2
    have eNA3 := sDE _ _ eNA2
    have eEA3 := sDE _ _ eEA2
    have gL := gK.trans (Go.of gK.st sE)
    generalize upd HD RA (.lst (ks.map fun k => V.int (k : Nat))) = HE at sE eRA eKA3 eGA3 eNA3 eEA3 gL sDE ⊢
    clear sDE sD sE sA sB gH gI gJ gK gC eKA1 eKA2 eGA1 eGA2 eNA1 eNA2 eEA1 eEA2 eKA eGA9 eNA9 eEA9 eL2 eZ eZC ePA nL2 nX1 nPA nZ pPA pX1 pZ gG lrg pmr er0 ppk
    have rkl := rk.len
    have hklt : ∀ k ∈ ks, k < ys.length := fun k hk => by rw [lys]; exact rk.lt k hk
    -- the order, the arcs, the whole
    refine ⟨_, rfl, _, rfl, NA, RA, ys.map V.str, ks, ks.map fun k => V.str (nmAt ys k), rfl, .inl (.inl eNA3), .inl (.inl eRA), by omega, by rw [List.length_map], rdir hklt, fun TA HF sF nTA bTA => ?_⟩
    have pTA := gL.st.ne_new nTA
    rw [show (ks.map fun k => V.str (nmAt ys k)) = (ks.map (nmAt ys)).map V.str by rw [List.map_map]; rfl] at bTA
    refine ⟨_, rfl, RA, ks, rfl, .inl (.inl (sF _ _ eRA)), fun k hk => by have := rk.lt k hk; omega, by omega, fun N HG hN sG => ?_⟩
    have sFG := sF.trans sG
    refine ⟨_, rfl, m, rfl, rfl, by omega, _, _, rfl, rfl, by show 3 ≤ sizeLine; decide, fun t nt => ⟨t, _, rfl, .inl (.inl upd_same), rfl, _, _, rfl, _, _, rfl, _, _, rfl, rfl, ?_⟩⟩
    have sH := sFG.trans (same_new (o := .tup [.ref TA, .int (N : Int), .int (2 ^ m - 1)]) nt)
    have bTA2 := (bTA.to sG).to (same_new (o := .tup [.ref TA, .int (N : Int), .int (2 ^ m - 1)]) nt)
    generalize upd HG t (.tup [.ref TA, .int (N : Int), .int (2 ^ m - 1)]) = HH at sH bTA2 ⊢
    have tb0 : LamX.Tabs [(Pt, (envOfC "law" (defScope s_p_law) s.heap.objs.size f (.ref c)).qual ++ "<lambda>")] H1 := fun p hp => by
      rw [List.mem_singleton.mp hp]
      exact LamX.TabS.nil (s1 _ _ hPt)
    have gM := gL.trans (Go.of gL.st sH)
    have tb1 := Tabs.go tb0 d gM
    generalize hT : [(Pt, (envOfC "law" (defScope s_p_law) s.heap.objs.size f (.ref c)).qual ++ "<lambda>")] = T at tb1
    have pp : EA ≠ D.p ∧ NA ≠ D.p ∧ GA ≠ D.p ∧ KA ≠ D.p ∧ RA ≠ D.p ∧ TA ≠ D.p := ⟨pEA, pNA, pGA, pKA, pRA, pTA⟩
    have w : W5 (⟨EA, NA, GA, KA, RA, TA, pp⟩ : A5 D) es ys gs ks T HH := ⟨gM.st, sH _ _ eEA3, sH _ _ eNA3, sH _ _ eGA3, sH _ _ eKA3, sH _ _ eRA, bTA2, tb1⟩
    clear gM gL tb0 bTA2 bTA sH sG sF sFG eRA eKA3 eGA3 eNA3 eEA3 nTA nRA nKA nGA nt s1 np nl gB gA pmg eEA5 eEA pEA pNA pGA pKA pRA pTA nNA
    -- the order itself, and one that is none
    have lgs : gs.length = ys.length := pg.length_eq
    have ndg : gs.Nodup := pg.nodup_iff.mpr nmy.1
    have nmg : ∀ x ∈ gs, isNm x = true := fun x hx => nmy.2 x (pg.mem_iff.mp hx)
    have neg : gs ≠ [] := fun z => by rw [z, List.length_nil] at lgs; omega
    have nmz : ∀ x ∈ ks.map (nmAt ys), isNm x = true := fun x hx => by
      obtain ⟨j, hj, rfl⟩ := List.mem_map.mp hx
      exact nmy.2 _ (List.mem_of_getElem? (nmAt_get (hklt j hj)))
    have ndz : (ks.map (nmAt ys)).Nodup := ring_nodup rk.nd hklt nmy.1
    have lz : (ks.map (nmAt ys)).length = m := by rw [List.length_map]; exact rkl
    have inz : ∀ x ∈ ys, x ∈ ks.map (nmAt ys) := fun x hx => by
      obtain ⟨i, hi⟩ := List.getElem?_of_mem hx
      have hil := lt_of_get hi
      have := nmAt_get hil
      rw [hi] at this
      exact List.mem_map.mpr ⟨i, rk.all (by omega), (Option.some.inj this).symm⟩
    have pz : (ks.map (nmAt ys)).Perm gs := perm_of_sub ndg (fun x hx => inz x (pg.mem_iff.mp hx)) (by omega)
    have ring : RingOrd gs (.tuple ((ks.map (nmAt ys)).map .str)) := by
      obtain ⟨t, e⟩ := hks
      rw [e] at pz ⊢
      refine ⟨nmAt ys 0, t.map (nmAt ys), rfl, pz, fun y hy => ?_⟩
      have hy' := pg.mem_iff.mp hy
      have pw := sorted_pair so
      cases ys with
      | nil => exact absurd rfl nys
      | cons z r =>
        show leS z y
        rcases List.mem_cons.mp hy' with e | h
        · rw [e]
          exact Std.lt_irrefl
        · exact (List.pairwise_cons.mp pw).1 y h
    have lvz : Lv 4 (.tuple ((ks.map (nmAt ys)).map .str)) := lv_lot nmz (by omega)
    have nv : NmV 12 ((ks.map (nmAt ys)).map V.str) := ⟨_, rfl, nmz, by omega⟩
    have lzv : ((ks.map (nmAt ys)).map V.str).length = m := by rw [List.length_map]; exact lz
    refine ⟨_, rfl, _, rfl, GA, .ref TA, gs, _, rfl, .inl (.inl (.inl w.g)), bare_da w.t (DaAll.strs _), lvz, ndg, nmg, by omega, neg, fun c1 HI hc1 s1 => ?_⟩
    have ec1 : c1 = true := hc1.mpr ring
    subst ec1
    have w1 := w.sm s1
    obtain ⟨y9, hy9, ey9⟩ := nv.at (i := -1) (by omega) (by omega)
    refine ⟨_, rfl, _, rfl, 1, rfl, -1, rfl, TA, _, rfl, TupAt.bare w1.t, fun r1 HJ s2 _ t2 => ?_⟩
    refine ⟨_, rfl, 1, rfl, TA, _, -1, _, rfl, rfl, (w1.sm s2).t.sq, ey9, by show 1 ≤ sizeLine; decide, fun LL nLL => ⟨by show 1 ≤ sizeLine; decide, fun PP nPP => ?_⟩⟩
    have s3 := same_new (o := .lst [.str y9]) nLL
    have s4 := same_new (o := .tup [.ref LL]) nPP
    have lc := cutV_length ((ks.map (nmAt ys)).map V.str) none (some (-1))
    refine ⟨r1, PP, _, _, rfl, rfl, (t2.to s3).to s4, .new, sline (by show _ + 1 ≤ 100000; omega), fun r3 HK s5 _ t5 => ?_⟩
    have s6 := (s2.trans s3).trans (s4.trans s5)
    have w2 := w1.sm s6
    obtain ⟨ws, ews, mws, lws⟩ := cut_strs (ks.map (nmAt ys)) none (some (-1))
    rw [ews] at t5
    have rLL : Da K HK (.ref LL) (.list [.str y9]) := (Da.newL (K := K) (upd_same (H := HJ) (a := LL) (o := .lst [.str y9])) (.cons (.str _) .nil)).to (s4.trans s5)
    have t5k : TupAt K HK r3 (ws.map V.str ++ [V.ref LL]) := t5
    have d5 : Da K HK (.ref r3) (.tuple (ws.map PyData.str ++ [PyData.list [.str y9]])) := t5k.da ((DaAll.strs ws).app (.cons rLL .nil))
    refine ⟨GA, .ref r3, gs, _, rfl, .inl (.inl (.inl w2.g)), d5, ⟨by rw [List.length_append, List.length_map]; show ws.length + 1 ≤ 60; omega, fun e he => ?_⟩, ndg, nmg, by omega, neg, fun c2 HL hc2 s7 => ?_⟩
    · rcases List.mem_append.mp he with h | h
      · exact lv_names (fun x hx => nmz x (mws x hx)) 3 e h
      · rw [List.mem_singleton.mp h]
        exact ⟨by show 1 ≤ 60; decide, fun e he => by rw [List.mem_singleton.mp he]; exact lv_nm hy9⟩
    have ec2 : c2 = false := by
      cases c2 with
      | false => rfl
      | true =>
        obtain ⟨x, r, e, _⟩ := hc2.mp rfl
        have e := PyData.tuple.inj e
        have mm : PyData.list [.str y9] ∈ ws.map PyData.str ++ [.list [.str y9]] := List.mem_append_right _ List.mem_cons_self
        rw [e] at mm
        obtain ⟨z, _, z2⟩ := List.mem_map.mp mm
        cases z2
    subst ec2
    refine ⟨by show 2 ≤ sizeLine; decide, fun M1 m1 => ⟨by show 2 ≤ sizeLine; decide, fun M2 m2' => ?_⟩⟩
    have s8 := same_new (o := .lst [.bl true, .bl false]) m1
    have s9 := same_new (o := .lst [.bl true, .bl false]) m2'
    refine ⟨.ref M1, .ref M2, .list ([true, false].map .bool), rfl, Da.newL (s9 _ _ upd_same) (DaAll.bls [true, false]), Da.newL upd_same (DaAll.bls [true, false]), lvn_bls (by decide), fun HM s10 => ⟨_, rfl, iteF ?_⟩⟩
    have w3 := w2.sm (s7.trans ((s8.trans s9).trans s10))
    clear s10 s9 s8 s7 s6 s5 s4 s3 s2 s1 w1 w2 w d5 t5k rLL t5 t2 hc1 hc2 m1 m2' nLL nPP
    have same_ord : ∀ d, RingOrd gs d ↔ RingOrd ys d := fun d => ⟨fun ⟨x, r, e, p, l⟩ => ⟨x, r, e, p.trans pg, fun y hy => l y (pg.mem_iff.mpr hy)⟩, fun ⟨x, r, e, p, l⟩ => ⟨x, r, e, p.trans pg.symm, fun y hy => l y (pg.mem_iff.mp hy)⟩⟩
    have e0at : atI (es.map V.str) 0 = some (.str e0) := atI_of (by decide) (by rw [ees]; rfl)
    -- bent orders
    refine ⟨6, rfl, by decide, by decide, for_range (lo := 0) (n := 6) (fun i σ H9 => ∃ y5 y9 y13 y14 y15 y16 y17 : Option V, σ = [some (.ref a), some (.ref D.p), some (.int (m : Int)), some (.ref EA), some (.ref NA), y5, some (.ref GA), some (.ref KA), some (.ref RA), y9, some (.ref TA), some (.int (N : Int)), some (.int (2 ^ m - 1)), y13, y14, y15, y16, y17] ∧ W5 (⟨EA, NA, GA, KA, RA, TA, pp⟩ : A5 D) es ys gs ks T H9) ⟨_, _, _, _, _, _, _, rfl, w3⟩ ?_ ?_⟩
    · clear w3
      rintro i σ H9 hi ⟨y5, y9, y13, y14, y15, y16, y17, rfl, w⟩
      refine ⟨_, rfl, _, rfl, _, rfl, EA, _, 0, _, rfl, rfl, .inl (.inl w.e), e0at, D, TA, ks.map (nmAt ys), e0, rfl, w.d, TupAt.bare w.t, pp.2.2.2.2.2, nm0, nmz, by omega, by omega, fun v d H2 lv g2 rv => ?_⟩
      have w2 := w.go g2
      have rv2 := rv.to hid_same
      refine ⟨_, rfl, rfl, _, rfl, ite2 (fun _ => ?_) (fun _ => ?_)⟩
      · refine ⟨_, rfl, GA, _, rfl, .inl ⟨.inl (.inl w2.g), fun l nl => ?_⟩⟩
        have s3 := same_new (o := .tup (gs.map V.str)) nl
        refine ⟨_, rfl, l, v, gs, d, rfl, .inr (.inl (.inl upd_same)), rv2.to s3, lv, ndg, nmg, by omega, neg, fun c1 H3 hc1 s4 => ?_⟩
        have s34 := s3.trans s4
        have w3 := w2.sm s34
        refine ⟨_, rfl, _, rfl, NA, v, ys, d, rfl, .inl (.inl w3.n), rv2.to s34, lv, nmy.1, nmy.2, by omega, nys, so, fun c2 H4 hc2 s5 => ?_⟩
        have ec : c2 = c1 := by rw [Bool.eq_iff_iff, hc1, hc2]; exact (same_ord d).symm
        subst ec
        refine ⟨.bl c2, .bl c2, .bool c2, rfl, .bl _, .bl _, trivial, fun H5 s6 => ⟨_, rfl, iteF ?_⟩⟩
        exact ⟨_, _, _, _, _, _, _, rfl, w3.sm (s5.trans s6)⟩
      · have s3 := Same.refl H2
        refine ⟨_, rfl, _, rfl, GA, v, gs, d, rfl, .inl (.inl (.inl w2.g)), rv2, lv, ndg, nmg, by omega, neg, fun c1 H3 hc1 s4 => ?_⟩
        have s34 := s3.trans s4
        have w3 := w2.sm s34
        refine ⟨_, rfl, _, rfl, NA, v, ys, d, rfl, .inl (.inl w3.n), rv2.to s34, lv, nmy.1, nmy.2, by omega, nys, so, fun c2 H4 hc2 s5 => ?_⟩
        have ec : c2 = c1 := by rw [Bool.eq_iff_iff, hc1, hc2]; exact (same_ord d).symm
        subst ec
        refine ⟨.bl c2, .bl c2, .bool c2, rfl, .bl _, .bl _, trivial, fun H5 s6 => ⟨_, rfl, iteF ?_⟩⟩
        exact ⟨_, _, _, _, _, _, _, rfl, w3.sm (s5.trans s6)⟩
    rintro σ H9 ⟨y5, y9, y13, y14, y15, y16, y17, rfl, w⟩
    clear w3
    -- arcs
    have lym2 : ys.length ≤ 60 := by omega
    have aks : ∀ b : Nat, N.testBit b = true ↔ ∃ a j, a < m ∧ j < m ∧ b = orAll ((rotL ks a).take (j + 1)) := fun b => by
      rw [← rkl]
      exact hN b
    have dK : ∀ b p, atK ks b p ∨ ¬ atK ks b p := fun b p => Classical.em _
    have posz : ∀ (b : Nat) (zs : List Str), (∀ x, x ∈ zs ↔ ∃ k, ys[k]? = some x ∧ b.testBit k = true) → ∀ p x, (ks.map (nmAt ys))[p]? = some x → (x ∈ zs ↔ atK ks b p) := fun b zs hz p x hx => by
      rw [List.getElem?_map] at hx
      obtain ⟨k, hk, ex⟩ := Option.map_eq_some_iff.mp hx
      have hkl := nmAt_get (hklt k (List.mem_of_getElem? hk))
      rw [ex] at hkl
      rw [atK_iff hk, hz]
      exact ⟨fun ⟨k', h1, h2⟩ => by rw [nodup_at nmy.1 hkl h1]; exact h2, fun h => ⟨k, hkl, h⟩⟩
    have nez : ∀ b : Nat, 0 < b → b < 2 ^ m → ∃ p, p < (ks.map (nmAt ys)).length ∧ atK ks b p := fun b h0 h1 => by
      obtain ⟨k, hk⟩ : ∃ k, b.testBit k = true := Classical.byContradiction fun z => by
        have : b = 0 := Nat.eq_of_testBit_eq fun k => by
          rw [Nat.zero_testBit]
          exact Bool.eq_false_iff.mpr fun w => z ⟨k, w⟩
        omega
      have hkm : k < m := Classical.byContradiction fun z => by
        rw [Nat.testBit_lt_two_pow (Nat.lt_of_lt_of_le h1 (Nat.pow_le_pow_right (by decide) (by omega)))] at hk
        cases hk
      obtain ⟨p, hp⟩ := List.getElem?_of_mem (rk.all hkm)
      exact ⟨p, by rw [List.length_map]; exact lt_of_get hp, (atK_iff hp).mpr hk⟩
    have subz : ∀ (b : Nat) (zs : List Str), (∀ x, x ∈ zs ↔ ∃ k, ys[k]? = some x ∧ b.testBit k = true) → ∀ z ∈ zs, z ∈ ks.map (nmAt ys) := fun b zs hz z mz => by
      obtain ⟨k, hk, _⟩ := (hz z).mp mz
      exact inz z (List.mem_of_getElem? hk)
    have nemp : ∀ (b : Nat) (zs : List Str), 0 < b → b < 2 ^ m → (∀ x, x ∈ zs ↔ ∃ k, ys[k]? = some x ∧ b.testBit k = true) → zs ≠ [] := fun b zs h0 h1 hz e => by
      obtain ⟨p, hp, h⟩ := nez b h0 h1
      obtain ⟨x, hx⟩ : ∃ x, (ks.map (nmAt ys))[p]? = some x := ⟨_, List.getElem?_eq_getElem hp⟩
      have := (posz b zs hz p x hx).mpr h
      rw [e] at this
      cases this
    have arcs : ∀ (b : Nat) (zs : List Str) (c : Bool), 0 < b → b < 2 ^ m → (∀ x, x ∈ zs ↔ ∃ k, ys[k]? = some x ∧ b.testBit k = true) → ArcB (ks.map (nmAt ys)) zs c → (c = true ↔ (Iv m (atK ks b) ∨ Iv m fun p => ¬ atK ks b p)) := fun b zs c h0 h1 hz hc => by
      have := arcB_iff (dK b) (posz b zs hz) (nez b h0 h1) hc
      rw [lz] at this
      exact this
    have arcN : ∀ (b : Nat) (zs : List Str) (c : Bool), 0 < b → b < 2 ^ m → (∀ x, x ∈ zs ↔ ∃ k, ys[k]? = some x ∧ b.testBit k = true) → ArcB (ks.map (nmAt ys)) zs c → c = N.testBit b := fun b zs c h0 h1 hz hc => by
      have ne := nez b h0 h1
      rw [lz] at ne
      rw [Bool.eq_iff_iff, arcs b zs c h0 h1 hz hc, iv_arc (dK b) ne, aks]
      exact ⟨fun ⟨a, j, ha, hj, h⟩ => ⟨a, j, ha, hj, (bits_arc rk h1 ha hj).mpr h⟩, fun ⟨a, j, ha, hj, h⟩ => ⟨a, j, ha, hj, (bits_arc rk h1 ha hj).mp h⟩⟩
    refine ⟨_, rfl, _, rfl, D, m, 24, rfl, w.d, by omega, m12, by decide, fun BA bs H10 hb lb g10 nBA eBA => ?_⟩
    have pBA := w.d.ne_new nBA
    have w2 := w.go g10
    refine ⟨BA, rfl, ⟨_, .inl (.inl eBA)⟩, for_list (K := K) (a := BA) (xs := bs.map fun b => V.int (b : Nat)) (fun i σ H9 => ∃ y5 y9 y13 y14 y15 y16 y17 : Option V, σ = [some (.ref a), some (.ref D.p), some (.int (m : Int)), some (.ref EA), some (.ref NA), y5, some (.ref GA), some (.ref KA), some (.ref RA), y9, some (.ref TA), some (.int (N : Int)), some (.int (2 ^ m - 1)), y13, y14, y15, y16, y17] ∧ W5 (⟨EA, NA, GA, KA, RA, TA, pp⟩ : A5 D) es ys gs ks T H9 ∧ H9 BA = some (.lst (bs.map fun b => V.int (b : Nat)))) ⟨_, _, _, _, _, _, _, rfl, w2, eBA⟩ (fun i σ H9 _ z => by obtain ⟨_, _, _, _, _, _, _, _, _, e⟩ := z; exact .inl (.inl e)) ?_ ?_⟩
    · clear w2 w eBA nBA y5 y9 y13 y14 y15 y16 y17
      rintro i y σ H9 hi ⟨y5, y9, y13, y14, y15, y16, y17, rfl, w, eBA⟩
      obtain ⟨b, hbi, rfl⟩ := getmap hi
      obtain ⟨b0, b1⟩ := hb b (List.mem_of_getElem? hbi)
      refine ⟨_, rfl, _, rfl, _, rfl, NA, ys, b, rfl, .inl (.inl w.n), lym2, fun LA zs H2 hz lz2 s2 nLA eLA => ?_⟩
      refine ⟨TA, LA, ks.map (nmAt ys), zs, rfl, (w.sm s2).t, .inl (.inl eLA), ndz, subz b zs hz, nemp b zs b0 b1 hz, by omega, by omega, fun c H3 hc s3 => ?_⟩
      have ec := arcN b zs c b0 b1 hz hc
      refine ⟨_, rfl, _, rfl, _, rfl, (N : Int), b, rfl, rfl, N / 2 ^ b, congrArg V.int (shr_nat N b), rfl, rfl, ?_⟩
      rw [bit_iff, ← ec]
      refine ⟨.bl c, .bl c, .bool c, rfl, .bl _, .bl _, trivial, fun H4 s4 => ⟨_, rfl, iteF ?_⟩⟩
      have s24 := s2.trans (s3.trans s4)
      have w4 := w.sm s24
      refine ⟨_, rfl, _, rfl, rfl, _, rfl, ite2 (fun hw => ?_) (fun hw => ?_)⟩
      · have hne : b ≠ 2 ^ m - 1 := fun z => by
          have : decide (V.int (b : Int) ≠ V.int (2 ^ m - 1)) = false := decide_eq_false fun w => w (congrArg V.int (by
            rw [z, Int.natCast_sub (Nat.pow_pos (by decide)), Int.natCast_pow]
            rfl))
          rw [decide_not] at this
          simp at this hw
          exact absurd this hw
        have eb : (2 : Int) ^ m - 1 - (b : Int) = ((2 ^ m - 1 - b : Nat) : Int) := by
          have : b ≤ 2 ^ m - 1 := by omega
          have p2 : 1 ≤ 2 ^ m := Nat.pow_pos (by decide)
          rw [Int.natCast_sub this, Int.natCast_sub p2, Int.natCast_pow]
          rfl
        have p2 : 1 ≤ 2 ^ m := Nat.pow_pos (by decide)
        have b0' : 0 < 2 ^ m - 1 - b := by omega
        have b1' : 2 ^ m - 1 - b < 2 ^ m := by omega
        refine ⟨_, rfl, _, rfl, _, rfl, _, rfl, _, _, rfl, rfl, NA, ys, 2 ^ m - 1 - b, (by show [V.ref NA, V.int ((2 : Int) ^ m - 1 - (b : Int))] = _; rw [eb]), .inl (.inl w4.n), lym2, fun LA2 zs2 H5 hz3 lz3 s5 nLA2 eLA2 => ?_⟩
        refine ⟨TA, LA2, ks.map (nmAt ys), zs2, rfl, (w4.sm s5).t, .inl (.inl eLA2), ndz, subz _ zs2 hz3, nemp _ zs2 b0' b1' hz3, by omega, by omega, fun c' H6 hc' s6 => ?_⟩
        have flip : ∀ p, p < m → (atK ks (2 ^ m - 1 - b) p ↔ ¬ atK ks b p) := fun p hp => by
          obtain ⟨k, hk⟩ : ∃ k, ks[p]? = some k := ⟨_, List.getElem?_eq_getElem (by omega)⟩
          rw [atK_iff hk, atK_iff hk, show 2 ^ m - 1 - b = 2 ^ m - (b + 1) by omega, Nat.testBit_two_pow_sub_succ b1, decide_eq_true (rk.lt k (List.mem_of_getElem? hk))]
          cases b.testBit k <;> simp
        have ec2 : c' = c := by
          rw [Bool.eq_iff_iff, arcs _ zs2 c' b0' b1' hz3 hc', arcs b zs c b0 b1 hz hc, iv_congr flip, iv_congr (P := fun p => ¬ atK ks (2 ^ m - 1 - b) p) (Q := fun p => atK ks b p) (fun p hp => by rw [flip p hp]; exact Classical.not_not)]
          exact Or.comm
        subst ec2
        refine ⟨_, rfl, .bl c', .bl c', .bool c', rfl, .bl _, .bl _, trivial, fun H7 s7 => ⟨_, rfl, iteF ?_⟩⟩
        have s57 := s5.trans (s6.trans s7)
        exact ⟨_, _, _, _, _, _, _, rfl, w4.sm s57, s57 _ _ (s24 _ _ eBA)⟩
      · exact ⟨_, _, _, _, _, _, _, rfl, w4, s24 _ _ eBA⟩
    rintro σ H9 ⟨y5, y9, y13, y14, y15, y16, y17, rfl, w, _⟩
    clear w2 eBA
    refine ⟨_, rfl, _, rfl, by omega, by omega, fun L nL => ?_⟩
    have mN : (m : Int).toNat = m := Int.toNat_natCast m
    refine lc_range (lo := 0) (n := (m : Int).toNat) (fun i H2 => Same H9 H2 ∧ H2 L = some (.lst ((List.replicate i true).map V.bl))) ⟨same_new nL, upd_same⟩ ?_ ?_
    · rintro i H2 hi ⟨s2, e2⟩
      have w2 := w.sm s2
      refine ⟨rfl, _, rfl, _, rfl, _, rfl, RA, NA, ks, ys, i, (by rw [Int.zero_add]; rfl), .inl (.inl w2.r), .inl (.inl w2.n), rk.nd, hklt, by omega, nmy, by omega, by omega, fun H3 s3 => ?_⟩
      refine ⟨_, s3 _ _ e2, slineL (by rw [List.length_map, List.length_replicate]; omega), same_mut (s2.trans s3) nL, ?_⟩
      rw [upd_same, List.replicate_succ', List.map_append]
      rfl
    rintro H10' ⟨s2, e2⟩
    refine ⟨L, _, rfl, .inl (.inl e2), _, rfl, ?_⟩
    rw [show (List.replicate (m : Int).toNat true).all id = true from List.all_eq_true.mpr fun b hb => (List.mem_replicate.mp hb).2]
    refine iteF ?_
    have w2 := w.sm s2
    clear s2 e2 nL w
    -- errors
    obtain ⟨n0, nt, en⟩ : ∃ n0 nt, ys = n0 :: nt := by
      cases ys with
      | nil => exact absurd rfl nys
      | cons x t => exact ⟨_, _, rfl⟩
    have n0at : atI (ys.map V.str) 0 = some (.str n0) := atI_of (by decide) (by rw [en]; rfl)
    have nmn0 : isNm n0 = true := nmy.2 n0 (by rw [en]; exact List.mem_cons_self)
    refine ⟨_, rfl, EA, _, 0, _, rfl, rfl, .inl (.inl w2.e), e0at, _, rfl, _, rfl, NA, _, 0, _, rfl, rfl, .inl (.inl w2.n), n0at, D, n0, rfl, w2.d, nmn0, fun vo od H11 lo no go ro => ⟨_, rfl, by show 3 ≤ sizeLine; decide, fun VA nVA => ?_⟩⟩
    have w3 := w2.go go
    have sV := same_new (o := .lst [.str e0, vo, .ref NA]) nVA
    have eVA : (upd H11 VA (.lst [.str e0, vo, .ref NA])) VA = some (.lst [.str e0, vo, .ref NA]) := upd_same
    have w4 := w3.sm sV
    have pVA := w3.d.ne_new nVA
    have rNA : Da K (hid D.p (upd H11 VA (.lst [.str e0, vo, .ref NA]))) (.ref NA) (.list (ys.map .str)) := Da.newL (by rw [hid_ne pp.2.1]; exact w4.n) (DaAll.strs ys)
    have items : DaAll K (hid D.p (upd H11 VA (.lst [.str e0, vo, .ref NA]))) [.str e0, vo, .ref NA] [.str e0, od, .list (ys.map .str)] := .cons (.str _) (.cons (ro.to (Go.of w3.d sV).sm) (.cons rNA .nil))
    have odd : ∀ d ∈ [PyData.str e0, od, .list (ys.map .str)], Lv 3 d ∧ inNm d (ks.map (nmAt ys)) = false := by
      intro d hd
      rcases List.mem_cons.mp hd with e | h
      · rw [e]
        exact ⟨lv_nm nm0, decide_eq_false fun z => by
          obtain ⟨k, hk, ek⟩ := List.mem_map.mp z
          exact ne0 (by rw [← ek]; exact List.mem_of_getElem? (nmAt_get (hklt k hk)))⟩
      · rcases List.mem_cons.mp h with e | h
        · rw [e]
          refine ⟨lo, ?_⟩
          have key : ∀ x, od = .str x → decide (x ∈ ks.map (nmAt ys)) = false := fun x ex => decide_eq_false fun z => by
            rw [ex] at no
            have hx := nmz x z
            rw [show nmD (.str x) = isNm x from rfl, hx] at no
            exact Bool.noConfusion no
          cases od <;> first | exact key _ rfl | rfl
        · rw [List.mem_singleton.mp h]
          exact ⟨lv_lotL nmy.2 (by omega), rfl⟩
    generalize upd H11 VA (.lst [.str e0, vo, .ref NA]) = H12 at eVA w4 items ⊢
    generalize [PyData.str e0, od, .list (ys.map .str)] = ds at items odd
    generalize [V.str e0, vo, .ref NA] = vs at eVA items ⊢
    clear w3 w2 sV rNA ro go nVA
    refine ⟨VA, rfl, ⟨vs, .inl (.inl eVA)⟩, for_list (K := K) (a := VA) (xs := vs) (fun i σ H9 => ∃ y5 y9 y13 y14 y15 y16 y17 : Option V, σ = [some (.ref a), some (.ref D.p), some (.int (m : Int)), some (.ref EA), some (.ref NA), y5, some (.ref GA), some (.ref KA), some (.ref RA), y9, some (.ref TA), some (.int (N : Int)), some (.int (2 ^ m - 1)), y13, y14, y15, y16, y17] ∧ W5 (⟨EA, NA, GA, KA, RA, TA, pp⟩ : A5 D) es ys gs ks T H9 ∧ KeepD H12 H9) ⟨_, _, _, _, _, _, _, rfl, w4, KeepD.refl _⟩ (fun i σ H9 _ z => by obtain ⟨_, _, _, _, _, _, _, _, _, e⟩ := z; exact .inl (.inl (e _ _ eVA (plain_lst _)))) ?_ ?_⟩
    · clear y5 y9 y13 y14 y15 y16 y17
      rintro i v σ H13 hi ⟨y5, y9, y13, y14, y15, y16, y17, rfl, w, kd⟩
      obtain ⟨dv, hdv, rv0⟩ := items.at hi
      obtain ⟨lv3, nin⟩ := odd dv (List.mem_of_getElem? hdv)
      have rv : Da K H13 v dv := (rv0.to hid_same).kd kd
      have tb := w.tb
      subst hT
      refine ⟨tb, fun H14 eN t14 c' hc' => ?_⟩
      have w5 := w.ext eN t14
      have kd5 := kd.trans (keepD_ext eN)
      have rv5 : Da K H14 v dv := rv.kd (keepD_ext eN)
      refine ⟨_, rfl, by show 1 ≤ sizeLine; decide, fun P1 n1 => ⟨by show 2 ≤ sizeLine; decide, fun P2 n2 => ?_⟩⟩
      have s1 := same_new (o := .tup [v]) n1
      have s2 := same_new (o := .tup [.str "UnknownFind", .ref P1]) n2
      have s12 := s1.trans s2
      refine ⟨s12 _ _ hc', fun p0 n0' => ?_⟩
      have s3 := s12.trans (same_new (o := .tup [.str "", .non]) n0')
      have w6 := w5.sm s3
      have rd : Da K (upd (upd H14 P1 (.tup [v])) P2 (.tup [.str "UnknownFind", .ref P1])) (.ref P2) (.tuple [.str "UnknownFind", .tuple [dv]]) := Da.newT upd_same (.cons (.str _) (.cons (Da.newT (s2 _ _ upd_same) (.cons (rv5.to s12) .nil)) .nil))
      refine ⟨_, rfl, _, rfl, TA, ks.map (nmAt ys), v, dv, rfl, w6.t, ndz, nmz, by omega, rv5.to s3, lv3.up.up, fun x j ex hj => ?_, fun _ cls dd v' H15 s4 ie rv' => ?_⟩
      · subst ex
        have : inNm (.str x) (ks.map (nmAt ys)) = true := decide_eq_true (List.mem_of_getElem? hj)
        rw [this] at nin
        cases nin
      · refine ⟨"UnknownFind", _, [v'], ie, ?_, by show 1 ≤ 1000; decide, fun r u H16 s5 eu er => ?_⟩
        · show (fldsOf "UnknownFind").map _ = _
          rw [show fldsOf "UnknownFind" = [("name" : Str)] by decide +kernel]
          rfl
        have s45 := (same_new (o := .tup [.str "", .non]) n0').trans (s4.trans s5)
        have one : ∀ e ∈ [dv], Lv 4 e := fun e he => by rw [List.mem_singleton.mp he]; exact lv3.up
        refine ⟨.ref r, .ref P2, .tuple [.str "UnknownFind", .tuple [dv]], rfl, Da.newT er (.cons (.str _) (.cons (Da.newT eu (.cons (rv'.to s5) .nil)) .nil)), rd.to s45, ⟨by show 2 ≤ 60; decide, fun e he => ?_⟩, fun H17 s6 => ⟨_, rfl, iteF ?_⟩⟩
        · rcases List.mem_cons.mp he with e1 | h1
          · rw [e1]
            exact lv_of 4 _ (by decide +kernel)
          · rw [List.mem_singleton.mp h1]
            exact ⟨by show 1 ≤ 60; decide, fun e he => by rw [List.mem_singleton.mp he]; exact lv3⟩
        exact ⟨_, _, _, _, _, _, _, rfl, w6.sm ((s4.trans s5).trans s6), kd5.trans (KeepD.of (s3.trans ((s4.trans s5).trans s6)))⟩
    rintro σ H13 ⟨y5, y9, y13, y14, y15, y16, y17, rfl, w, _⟩
    have lvg : Lv 4 (.list (gs.map .str)) := lv_lotL nmg (by omega)
    refine ⟨_, rfl, _, rfl, .list (gs.map .str), .list (gs.map .str), .lst (.inl (.inl w.g)) (DaAll.dp (K := K) _ _ (DaAll.strs gs)), .lst (.inl (.inl w.k)) (DaAll.dp (K := K) _ _ (DaAll.strs gs)), lvg.shaped (by decide), lvg.shaped (by decide), ?_⟩
    rw [eqLL, decide_eq_true rfl]
    exact q _
end
end Th
namespace Th
open PySem PySem.Spec PyProof.Rows L2
theorem at_mk {K : PySem.W.Frag} {h : Heap} {mg : Str → Option Value} {x : Str} {st : Stmt} {ps : List Str} {f : Addr} {oc : Value} {od an : Option Addr} {osl : Array (Option Value)} {kV doc pm cdv ct : Value} (X : K.In h) (G : h.Ns mainGlobals mg)
    (a : PySem.W.nsIn K mainGlobals x = some (some (.ref f))) (l : K.lookup f = some ⟨oc, od, .func (PySem.W.fnOf x x (defArgs st) (defBody st) (defScope st) .none kV doc pm an cdv ct), osl⟩) (c : PySem.W.codeIn K cdv x = true) (k : PySem.W.keepIn K (.ref f) = true)
    (hb : ∀ (kV doc pm : Value) (an : Option Addr) (cdv ct : Value) (us : List Value), us.length = ps.length → bindArgs (PySem.W.fnOf x x (defArgs st) (defBody st) (defScope st) .none kV doc pm an cdv ct) ⟨us, []⟩ = pure (ps.zip us)) : At K mg x st ps :=
  ⟨f, _, fun_mk (st := st) l c k, PySem.W.mg_of X G a, (fun_mk (st := st) l c k).binds (ps := ps) hb⟩
theorem all_mk {l : PySem.W.OpenLaw} {w : World} {K : PySem.W.Frag} {h : Heap} {mg : Str → Option Value} {fa : Addr} (X : K.In h) (G : h.Ns mainGlobals mg) (own : LamX.OwnTab K fa h)
    {f0 : Addr} {od0 an0 : Option Addr} {sl0 : Array (Option Value)} {oc0 kV0 dc0 pm0 ct0 : Value} {cd0 : Value}
    {f1 : Addr} {od1 an1 : Option Addr} {sl1 : Array (Option Value)} {oc1 kV1 dc1 pm1 ct1 : Value} {cd1 : Value}
    {f2 : Addr} {od2 an2 : Option Addr} {sl2 : Array (Option Value)} {oc2 kV2 dc2 pm2 ct2 : Value} {cd2 : Value}
    {f3 : Addr} {od3 an3 : Option Addr} {sl3 : Array (Option Value)} {oc3 kV3 dc3 pm3 ct3 : Value} {cd3 : Value}
    {f4 : Addr} {od4 an4 : Option Addr} {sl4 : Array (Option Value)} {oc4 kV4 dc4 pm4 ct4 : Value} {cd4 : Value}
    {f5 : Addr} {od5 an5 : Option Addr} {sl5 : Array (Option Value)} {oc5 kV5 dc5 pm5 ct5 : Value} {cd5 : Value}
    {f6 : Addr} {od6 an6 : Option Addr} {sl6 : Array (Option Value)} {oc6 kV6 dc6 pm6 ct6 : Value} {cd6 : Value}
    {f7 : Addr} {od7 an7 : Option Addr} {sl7 : Array (Option Value)} {oc7 kV7 dc7 pm7 ct7 : Value} {cd7 : Value}
    {f8 : Addr} {od8 an8 : Option Addr} {sl8 : Array (Option Value)} {oc8 kV8 dc8 pm8 ct8 : Value} {cd8 : Value}
    {f9 : Addr} {od9 an9 : Option Addr} {sl9 : Array (Option Value)} {oc9 kV9 dc9 pm9 ct9 : Value} {cd9 : Value}
    {f10 : Addr} {od10 an10 : Option Addr} {sl10 : Array (Option Value)} {oc10 kV10 dc10 pm10 ct10 : Value} {cd10 : Value}
    {f11 : Addr} {od11 an11 : Option Addr} {sl11 : Array (Option Value)} {oc11 kV11 dc11 pm11 ct11 : Value} {cd11 : Value}
    {f12 : Addr} {od12 an12 : Option Addr} {sl12 : Array (Option Value)} {oc12 kV12 dc12 pm12 ct12 : Value} {cd12 : Value}
    {f13 : Addr} {od13 an13 : Option Addr} {sl13 : Array (Option Value)} {oc13 kV13 dc13 pm13 ct13 : Value} {cd13 : Value}
    {f14 : Addr} {od14 an14 : Option Addr} {sl14 : Array (Option Value)} {oc14 kV14 dc14 pm14 ct14 : Value} {cd14 : Value}
    {f15 : Addr} {od15 an15 : Option Addr} {sl15 : Array (Option Value)} {oc15 kV15 dc15 pm15 ct15 : Value} {cd15 : Value}
    {f16 : Addr} {od16 an16 : Option Addr} {sl16 : Array (Option Value)} {oc16 kV16 dc16 pm16 ct16 : Value} {cd16 : Value}
    {f17 : Addr} {od17 an17 : Option Addr} {sl17 : Array (Option Value)} {oc17 kV17 dc17 pm17 ct17 : Value} {cd17 : Value}
    {f18 : Addr} {od18 an18 : Option Addr} {sl18 : Array (Option Value)} {oc18 kV18 dc18 pm18 ct18 : Value} {cd18 : Value}
    {f19 : Addr} {od19 an19 : Option Addr} {sl19 : Array (Option Value)} {oc19 kV19 dc19 pm19 ct19 : Value} {cd19 : Value}
    {f20 : Addr} {od20 an20 : Option Addr} {sl20 : Array (Option Value)} {oc20 kV20 dc20 pm20 ct20 : Value} {cd20 : Value}
    {f21 : Addr} {od21 an21 : Option Addr} {sl21 : Array (Option Value)} {oc21 kV21 dc21 pm21 ct21 : Value} {cd21 : Value}
    {f22 : Addr} {od22 an22 : Option Addr} {sl22 : Array (Option Value)} {oc22 kV22 dc22 pm22 ct22 : Value} {cd22 : Value}
    {f23 : Addr} {od23 an23 : Option Addr} {sl23 : Array (Option Value)} {oc23 kV23 dc23 pm23 ct23 : Value} {cd23 : Value}
    {f24 : Addr} {od24 an24 : Option Addr} {sl24 : Array (Option Value)} {oc24 kV24 dc24 pm24 ct24 : Value} {cd24 : Value}
    {f25 : Addr} {od25 an25 : Option Addr} {sl25 : Array (Option Value)} {oc25 kV25 dc25 pm25 ct25 : Value} {cd25 : Value}
    {f26 : Addr} {od26 an26 : Option Addr} {sl26 : Array (Option Value)} {oc26 kV26 dc26 pm26 ct26 : Value} {cd26 : Value}
    {f27 : Addr} {od27 an27 : Option Addr} {sl27 : Array (Option Value)} {oc27 kV27 dc27 pm27 ct27 : Value} {cd27 : Value}
    {f28 : Addr} {od28 an28 : Option Addr} {sl28 : Array (Option Value)} {oc28 kV28 dc28 pm28 ct28 : Value} {cd28 : Value}
    {f29 : Addr} {od29 an29 : Option Addr} {sl29 : Array (Option Value)} {oc29 kV29 dc29 pm29 ct29 : Value} {cd29 : Value}
    {f30 : Addr} {od30 an30 : Option Addr} {sl30 : Array (Option Value)} {oc30 kV30 dc30 pm30 ct30 : Value} {cd30 : Value}
    {f31 : Addr} {od31 an31 : Option Addr} {sl31 : Array (Option Value)} {oc31 kV31 dc31 pm31 ct31 : Value} {cc Pt : Addr} {eC : Value} {dC : Option Addr} {vC : Array Value} {sC : Array (Option Value)}
    {b1 : Addr}
    {b2 : Addr}
    {C32 f32 : Addr} {od32 an32 : Option Addr} {sl32 : Array (Option Value)} {oc32 kV32 dc32 pm32 cd32 ct32 : Value}
    {tL : Tok}
    {tM : Tok}
    (hfa : mg "law" = some (.ref fa))
    (a0 : PySem.W.nsIn K mainGlobals "copied" = some (some (.ref f0))) (l0 : K.lookup f0 = some ⟨oc0, od0, .func (PySem.W.fnOf "copied" "copied" (defArgs s_p_copied) (defBody s_p_copied) (defScope s_p_copied) .none kV0 dc0 pm0 an0 cd0 ct0), sl0⟩) (c0 : PySem.W.codeIn K cd0 "copied" = true) (k0 : PySem.W.keepIn K (.ref f0) = true)
    (a1 : PySem.W.nsIn K mainGlobals "is_name" = some (some (.ref f1))) (l1 : K.lookup f1 = some ⟨oc1, od1, .func (PySem.W.fnOf "is_name" "is_name" (defArgs s_p_is_name) (defBody s_p_is_name) (defScope s_p_is_name) .none kV1 dc1 pm1 an1 cd1 ct1), sl1⟩) (c1 : PySem.W.codeIn K cd1 "is_name" = true) (k1 : PySem.W.keepIn K (.ref f1) = true)
    (a2 : PySem.W.nsIn K mainGlobals "are_names" = some (some (.ref f2))) (l2 : K.lookup f2 = some ⟨oc2, od2, .func (PySem.W.fnOf "are_names" "are_names" (defArgs s_p_are_names) (defBody s_p_are_names) (defScope s_p_are_names) .none kV2 dc2 pm2 an2 cd2 ct2), sl2⟩) (c2 : PySem.W.codeIn K cd2 "are_names" = true) (k2 : PySem.W.keepIn K (.ref f2) = true)
    (a3 : PySem.W.nsIn K mainGlobals "rest" = some (some (.ref f3))) (l3 : K.lookup f3 = some ⟨oc3, od3, .func (PySem.W.fnOf "rest" "rest" (defArgs s_p_rest) (defBody s_p_rest) (defScope s_p_rest) .none kV3 dc3 pm3 an3 cd3 ct3), sl3⟩) (c3 : PySem.W.codeIn K cd3 "rest" = true) (k3 : PySem.W.keepIn K (.ref f3) = true)
    (a4 : PySem.W.nsIn K mainGlobals "is_order" = some (some (.ref f4))) (l4 : K.lookup f4 = some ⟨oc4, od4, .func (PySem.W.fnOf "is_order" "is_order" (defArgs s_p_is_order) (defBody s_p_is_order) (defScope s_p_is_order) .none kV4 dc4 pm4 an4 cd4 ct4), sl4⟩) (c4 : PySem.W.codeIn K cd4 "is_order" = true) (k4 : PySem.W.keepIn K (.ref f4) = true)
    (a5 : PySem.W.nsIn K mainGlobals "place_in" = some (some (.ref f5))) (l5 : K.lookup f5 = some ⟨oc5, od5, .func (PySem.W.fnOf "place_in" "place_in" (defArgs s_p_place_in) (defBody s_p_place_in) (defScope s_p_place_in) .none kV5 dc5 pm5 an5 cd5 ct5), sl5⟩) (c5 : PySem.W.codeIn K cd5 "place_in" = true) (k5 : PySem.W.keepIn K (.ref f5) = true)
    (a6 : PySem.W.nsIn K mainGlobals "keeps" = some (some (.ref f6))) (l6 : K.lookup f6 = some ⟨oc6, od6, .func (PySem.W.fnOf "keeps" "keeps" (defArgs s_p_keeps) (defBody s_p_keeps) (defScope s_p_keeps) .none kV6 dc6 pm6 an6 cd6 ct6), sl6⟩) (c6 : PySem.W.codeIn K cd6 "keeps" = true) (k6 : PySem.W.keepIn K (.ref f6) = true)
    (a7 : PySem.W.nsIn K mainGlobals "gaps_of" = some (some (.ref f7))) (l7 : K.lookup f7 = some ⟨oc7, od7, .func (PySem.W.fnOf "gaps_of" "gaps_of" (defArgs s_p_gaps_of) (defBody s_p_gaps_of) (defScope s_p_gaps_of) .none kV7 dc7 pm7 an7 cd7 ct7), sl7⟩) (c7 : PySem.W.codeIn K cd7 "gaps_of" = true) (k7 : PySem.W.keepIn K (.ref f7) = true)
    (a8 : PySem.W.nsIn K mainGlobals "is_ring_order" = some (some (.ref f8))) (l8 : K.lookup f8 = some ⟨oc8, od8, .func (PySem.W.fnOf "is_ring_order" "is_ring_order" (defArgs s_p_is_ring_order) (defBody s_p_is_ring_order) (defScope s_p_is_ring_order) .none kV8 dc8 pm8 an8 cd8 ct8), sl8⟩) (c8 : PySem.W.codeIn K cd8 "is_ring_order" = true) (k8 : PySem.W.keepIn K (.ref f8) = true)
    (a9 : PySem.W.nsIn K mainGlobals "is_arc" = some (some (.ref f9))) (l9 : K.lookup f9 = some ⟨oc9, od9, .func (PySem.W.fnOf "is_arc" "is_arc" (defArgs s_p_is_arc) (defBody s_p_is_arc) (defScope s_p_is_arc) .none kV9 dc9 pm9 an9 cd9 ct9), sl9⟩) (c9 : PySem.W.codeIn K cd9 "is_arc" = true) (k9 : PySem.W.keepIn K (.ref f9) = true)
    (a10 : PySem.W.nsIn K mainGlobals "opened" = some (some (.ref f10))) (l10 : K.lookup f10 = some ⟨oc10, od10, .func (PySem.W.fnOf "opened" "opened" (defArgs s_p_opened) (defBody s_p_opened) (defScope s_p_opened) .none kV10 dc10 pm10 an10 cd10 ct10), sl10⟩) (c10 : PySem.W.codeIn K cd10 "opened" = true) (k10 : PySem.W.keepIn K (.ref f10) = true)
    (a11 : PySem.W.nsIn K mainGlobals "_law_bag" = some (some (.ref f11))) (l11 : K.lookup f11 = some ⟨oc11, od11, .func (PySem.W.fnOf "_law_bag" "_law_bag" (defArgs s_l_bag) (defBody s_l_bag) (defScope s_l_bag) .none kV11 dc11 pm11 an11 cd11 ct11), sl11⟩) (c11 : PySem.W.codeIn K cd11 "_law_bag" = true) (k11 : PySem.W.keepIn K (.ref f11) = true)
    (a12 : PySem.W.nsIn K mainGlobals "_law_draw" = some (some (.ref f12))) (l12 : K.lookup f12 = some ⟨oc12, od12, .func (PySem.W.fnOf "_law_draw" "_law_draw" (defArgs s_l_draw) (defBody s_l_draw) (defScope s_l_draw) .none kV12 dc12 pm12 an12 cd12 ct12), sl12⟩) (c12 : PySem.W.codeIn K cd12 "_law_draw" = true) (k12 : PySem.W.keepIn K (.ref f12) = true)
    (a13 : PySem.W.nsIn K mainGlobals "_law_pick" = some (some (.ref f13))) (l13 : K.lookup f13 = some ⟨oc13, od13, .func (PySem.W.fnOf "_law_pick" "_law_pick" (defArgs s_l_pick) (defBody s_l_pick) (defScope s_l_pick) .none kV13 dc13 pm13 an13 cd13 ct13), sl13⟩) (c13 : PySem.W.codeIn K cd13 "_law_pick" = true) (k13 : PySem.W.keepIn K (.ref f13) = true)
    (a14 : PySem.W.nsIn K mainGlobals "_law_mixed" = some (some (.ref f14))) (l14 : K.lookup f14 = some ⟨oc14, od14, .func (PySem.W.fnOf "_law_mixed" "_law_mixed" (defArgs s_l_mixed) (defBody s_l_mixed) (defScope s_l_mixed) .none kV14 dc14 pm14 an14 cd14 ct14), sl14⟩) (c14 : PySem.W.codeIn K cd14 "_law_mixed" = true) (k14 : PySem.W.keepIn K (.ref f14) = true)
    (a15 : PySem.W.nsIn K mainGlobals "_law_names" = some (some (.ref f15))) (l15 : K.lookup f15 = some ⟨oc15, od15, .func (PySem.W.fnOf "_law_names" "_law_names" (defArgs s_l_names) (defBody s_l_names) (defScope s_l_names) .none kV15 dc15 pm15 an15 cd15 ct15), sl15⟩) (c15 : PySem.W.codeIn K cd15 "_law_names" = true) (k15 : PySem.W.keepIn K (.ref f15) = true)
    (a16 : PySem.W.nsIn K mainGlobals "_law_size" = some (some (.ref f16))) (l16 : K.lookup f16 = some ⟨oc16, od16, .func (PySem.W.fnOf "_law_size" "_law_size" (defArgs s_l_size) (defBody s_l_size) (defScope s_l_size) .none kV16 dc16 pm16 an16 cd16 ct16), sl16⟩) (c16 : PySem.W.codeIn K cd16 "_law_size" = true) (k16 : PySem.W.keepIn K (.ref f16) = true)
    (a17 : PySem.W.nsIn K mainGlobals "_law_lot" = some (some (.ref f17))) (l17 : K.lookup f17 = some ⟨oc17, od17, .func (PySem.W.fnOf "_law_lot" "_law_lot" (defArgs s_l_lot) (defBody s_l_lot) (defScope s_l_lot) .none kV17 dc17 pm17 an17 cd17 ct17), sl17⟩) (c17 : PySem.W.codeIn K cd17 "_law_lot" = true) (k17 : PySem.W.keepIn K (.ref f17) = true)
    (a18 : PySem.W.nsIn K mainGlobals "_law_lex" = some (some (.ref f18))) (l18 : K.lookup f18 = some ⟨oc18, od18, .func (PySem.W.fnOf "_law_lex" "_law_lex" (defArgs s_l_lex) (defBody s_l_lex) (defScope s_l_lex) .none kV18 dc18 pm18 an18 cd18 ct18), sl18⟩) (c18 : PySem.W.codeIn K cd18 "_law_lex" = true) (k18 : PySem.W.keepIn K (.ref f18) = true)
    (a19 : PySem.W.nsIn K mainGlobals "_law_some_lots" = some (some (.ref f19))) (l19 : K.lookup f19 = some ⟨oc19, od19, .func (PySem.W.fnOf "_law_some_lots" "_law_some_lots" (defArgs s_l_some_lots) (defBody s_l_some_lots) (defScope s_l_some_lots) .none kV19 dc19 pm19 an19 cd19 ct19), sl19⟩) (c19 : PySem.W.codeIn K cd19 "_law_some_lots" = true) (k19 : PySem.W.keepIn K (.ref f19) = true)
    (a20 : PySem.W.nsIn K mainGlobals "_law_order" = some (some (.ref f20))) (l20 : K.lookup f20 = some ⟨oc20, od20, .func (PySem.W.fnOf "_law_order" "_law_order" (defArgs s_l_order) (defBody s_l_order) (defScope s_l_order) .none kV20 dc20 pm20 an20 cd20 ct20), sl20⟩) (c20 : PySem.W.codeIn K cd20 "_law_order" = true) (k20 : PySem.W.keepIn K (.ref f20) = true)
    (a21 : PySem.W.nsIn K mainGlobals "_law_same" = some (some (.ref f21))) (l21 : K.lookup f21 = some ⟨oc21, od21, .func (PySem.W.fnOf "_law_same" "_law_same" (defArgs s_l_same) (defBody s_l_same) (defScope s_l_same) .none kV21 dc21 pm21 an21 cd21 ct21), sl21⟩) (c21 : PySem.W.codeIn K cd21 "_law_same" = true) (k21 : PySem.W.keepIn K (.ref f21) = true)
    (a22 : PySem.W.nsIn K mainGlobals "_law_fields" = some (some (.ref f22))) (l22 : K.lookup f22 = some ⟨oc22, od22, .func (PySem.W.fnOf "_law_fields" "_law_fields" (defArgs s_l_fields) (defBody s_l_fields) (defScope s_l_fields) .none kV22 dc22 pm22 an22 cd22 ct22), sl22⟩) (c22 : PySem.W.codeIn K cd22 "_law_fields" = true) (k22 : PySem.W.keepIn K (.ref f22) = true)
    (a23 : PySem.W.nsIn K mainGlobals "_law_try" = some (some (.ref f23))) (l23 : K.lookup f23 = some ⟨oc23, od23, .func (PySem.W.fnOf "_law_try" "_law_try" (defArgs s_l_try) (defBody s_l_try) (defScope s_l_try) .none kV23 dc23 pm23 an23 cd23 ct23), sl23⟩) (c23 : PySem.W.codeIn K cd23 "_law_try" = true) (k23 : PySem.W.keepIn K (.ref f23) = true)
    (a24 : PySem.W.nsIn K mainGlobals "_law_raises" = some (some (.ref f24))) (l24 : K.lookup f24 = some ⟨oc24, od24, .func (PySem.W.fnOf "_law_raises" "_law_raises" (defArgs s_l_raises) (defBody s_l_raises) (defScope s_l_raises) .none kV24 dc24 pm24 an24 cd24 ct24), sl24⟩) (c24 : PySem.W.codeIn K cd24 "_law_raises" = true) (k24 : PySem.W.keepIn K (.ref f24) = true)
    (a25 : PySem.W.nsIn K mainGlobals "_law_arcs" = some (some (.ref f25))) (l25 : K.lookup f25 = some ⟨oc25, od25, .func (PySem.W.fnOf "_law_arcs" "_law_arcs" (defArgs s_l_arcs) (defBody s_l_arcs) (defScope s_l_arcs) .none kV25 dc25 pm25 an25 cd25 ct25), sl25⟩) (c25 : PySem.W.codeIn K cd25 "_law_arcs" = true) (k25 : PySem.W.keepIn K (.ref f25) = true)
    (a26 : PySem.W.nsIn K mainGlobals "_law_is_name" = some (some (.ref f26))) (l26 : K.lookup f26 = some ⟨oc26, od26, .func (PySem.W.fnOf "_law_is_name" "_law_is_name" (defArgs s_l_is_name) (defBody s_l_is_name) (defScope s_l_is_name) .none kV26 dc26 pm26 an26 cd26 ct26), sl26⟩) (c26 : PySem.W.codeIn K cd26 "_law_is_name" = true) (k26 : PySem.W.keepIn K (.ref f26) = true)
    (a27 : PySem.W.nsIn K mainGlobals "_law_odd_thing" = some (some (.ref f27))) (l27 : K.lookup f27 = some ⟨oc27, od27, .func (PySem.W.fnOf "_law_odd_thing" "_law_odd_thing" (defArgs s_l_odd_thing) (defBody s_l_odd_thing) (defScope s_l_odd_thing) .none kV27 dc27 pm27 an27 cd27 ct27), sl27⟩) (c27 : PySem.W.codeIn K cd27 "_law_odd_thing" = true) (k27 : PySem.W.keepIn K (.ref f27) = true)
    (a28 : PySem.W.nsIn K mainGlobals "_law_is_ring" = some (some (.ref f28))) (l28 : K.lookup f28 = some ⟨oc28, od28, .func (PySem.W.fnOf "_law_is_ring" "_law_is_ring" (defArgs s_l_is_ring) (defBody s_l_is_ring) (defScope s_l_is_ring) .none kV28 dc28 pm28 an28 cd28 ct28), sl28⟩) (c28 : PySem.W.codeIn K cd28 "_law_is_ring" = true) (k28 : PySem.W.keepIn K (.ref f28) = true)
    (a29 : PySem.W.nsIn K mainGlobals "_law_bent_ring" = some (some (.ref f29))) (l29 : K.lookup f29 = some ⟨oc29, od29, .func (PySem.W.fnOf "_law_bent_ring" "_law_bent_ring" (defArgs s_l_bent_ring) (defBody s_l_bent_ring) (defScope s_l_bent_ring) .none kV29 dc29 pm29 an29 cd29 ct29), sl29⟩) (c29 : PySem.W.codeIn K cd29 "_law_bent_ring" = true) (k29 : PySem.W.keepIn K (.ref f29) = true)
    (a30 : PySem.W.nsIn K mainGlobals "_law_opened_so" = some (some (.ref f30))) (l30 : K.lookup f30 = some ⟨oc30, od30, .func (PySem.W.fnOf "_law_opened_so" "_law_opened_so" (defArgs s_l_opened_so) (defBody s_l_opened_so) (defScope s_l_opened_so) .none kV30 dc30 pm30 an30 cd30 ct30), sl30⟩) (c30 : PySem.W.codeIn K cd30 "_law_opened_so" = true) (k30 : PySem.W.keepIn K (.ref f30) = true)
    (a31 : PySem.W.nsIn K mainGlobals "law" = some (some (.ref f31))) (l31 : K.lookup f31 = some ⟨oc31, od31, .func (PySem.W.fnOf "law" "law" (defArgs s_p_law) (defBody s_p_law) (defScope s_p_law) .none kV31 dc31 pm31 an31 (.ref cc) ct31), sl31⟩) (c31 : PySem.W.codeIn K (.ref cc) "law" = true) (k31 : PySem.W.keepIn K (.ref f31) = true)
    (lc : K.lookup cc = some ⟨eC, dC, .fields vC, sC⟩) (pc : vC[11]? = some (.ref Pt)) (np : K.lookup Pt = none) (hcd : PySem.W.codeHdIn K cc Pt = true)
    (z_len : PySem.W.nsIn K mainGlobals "len" = some none)
    (z_range : PySem.W.nsIn K mainGlobals "range" = some none)
    (z_int : PySem.W.nsIn K mainGlobals "int" = some none)
    (z_abs : PySem.W.nsIn K mainGlobals "abs" = some none)
    (z_isinstance : PySem.W.nsIn K mainGlobals "isinstance" = some none)
    (z_all : PySem.W.nsIn K mainGlobals "all" = some none)
    (z_any : PySem.W.nsIn K mainGlobals "any" = some none)
    (z_sorted : PySem.W.nsIn K mainGlobals "sorted" = some none)
    (z_set : PySem.W.nsIn K mainGlobals "set" = some none)
    (z_list : PySem.W.nsIn K mainGlobals "list" = some none)
    (z_tuple : PySem.W.nsIn K mainGlobals "tuple" = some none)
    (z_str : PySem.W.nsIn K mainGlobals "str" = some none)
    (z_bool : PySem.W.nsIn K mainGlobals "bool" = some none)
    (z_enumerate : PySem.W.nsIn K mainGlobals "enumerate" = some none)
    (z_min : PySem.W.nsIn K mainGlobals "min" = some none)
    (z_max : PySem.W.nsIn K mainGlobals "max" = some none)
    (ab1 : PySem.W.nsIn K mainGlobals "FindError" = some (some (.ref b1)))
    (ab2 : PySem.W.nsIn K mainGlobals "Missing" = some (some (.ref b2)))
    (a32 : PySem.W.nsIn K mainGlobals "UnknownFind" = some (some (.ref C32)))
    (ei32 : PySem.W.excInitIn K C32 [.type "LookupError", .type "Exception", .type "BaseException", .type "object"] "LookupError.__new__" = true)
    (eo32 : PySem.W.excOver K C32 [.type "LookupError", .type "Exception", .type "BaseException", .type "object"] = true)
    (sa32 : PySem.W.findIn K (.ref C32) "__setattr__" = some (some (.builtin "object.__setattr__")))
    (ex32 : PySem.W.subIn K (.ref C32) (.type "BaseException") = some true)
    (ty32 : PySem.W.typeIn K (.ref C32) = some (.type "type"))
    (kC32 : PySem.W.keepIn K (.ref C32) = true)
    (hd32 : PySem.W.hasDictIn K C32 = true)
    (ga32 : PySem.W.findIn K (.ref C32) "__getattribute__" = some (some (.builtin "BaseException.__getattribute__")))
    (gg32 : PySem.W.findIn K (.ref C32) "__getattr__" = some none)
    (in32 : PySem.W.findIn K (.ref C32) "__init__" = some (some (.ref f32)))
    (ti32 : PySem.W.typeIn K (.ref f32) = some (.type "function"))
    (l32 : K.lookup f32 = some ⟨oc32, od32, .func (PySem.W.fnOf "__init__" "UnknownFind.__init__" (defArgs s_c_UnknownFind_init) (defBody s_c_UnknownFind_init) (defScope s_c_UnknownFind_init) .none kV32 dc32 pm32 an32 cd32 ct32), sl32⟩) (c32 : PySem.W.codeIn K cd32 "UnknownFind.__init__" = true) (k32 : PySem.W.keepIn K (.ref f32) = true)
    (ca32 : PySem.W.exmAny K (.ref C32) [.ref b1, .ref b2] = some true)
    (nf32_0 : PySem.W.findIn K (.ref C32) "name" = some none)
    (nf32_1 : PySem.W.findIn K (.ref C32) "code" = some none)
    (xL : PySem.W.nsIn K mainGlobals "_LETTERS" = some (some (.str "abcdefghijklmnopqrstuvwxyz" tL)))
    (xM : PySem.W.nsIn K mainGlobals "_MOST_LETTERS" = some (some (.int 6 tM))) :
    LamX.LawAtS l w K CX0 14 63 "_law_script" mg fa h := by
  have e := hfa.symm.trans (PySem.W.mg_of X G a31)
  cases e
  have Z : Zs mg := ⟨PySem.W.mg_none_of X G z_len, PySem.W.mg_none_of X G z_range, PySem.W.mg_none_of X G z_int, PySem.W.mg_none_of X G z_abs, PySem.W.mg_none_of X G z_isinstance, PySem.W.mg_none_of X G z_all, PySem.W.mg_none_of X G z_any, PySem.W.mg_none_of X G z_sorted, PySem.W.mg_none_of X G z_set, PySem.W.mg_none_of X G z_list, PySem.W.mg_none_of X G z_tuple, PySem.W.mg_none_of X G z_str, PySem.W.mg_none_of X G z_bool, PySem.W.mg_none_of X G z_enumerate, PySem.W.mg_none_of X G z_min, PySem.W.mg_none_of X G z_max⟩
  have F_law := fun_mk (x := "law") (qual := "law") (st := s_p_law) l31 c31 k31
  have A_p_copied : At K mg "copied" s_p_copied ["value"] := at_mk X G a0 l0 c0 k0 fun _ _ _ _ _ _ us hl => match us, hl with | [_], _ => rfl
  have A_p_is_name : At K mg "is_name" s_p_is_name ["value"] := at_mk X G a1 l1 c1 k1 fun _ _ _ _ _ _ us hl => match us, hl with | [_], _ => rfl
  have A_p_are_names : At K mg "are_names" s_p_are_names ["values"] := at_mk X G a2 l2 c2 k2 fun _ _ _ _ _ _ us hl => match us, hl with | [_], _ => rfl
  have A_p_rest : At K mg "rest" s_p_rest ["one", "other"] := at_mk X G a3 l3 c3 k3 fun _ _ _ _ _ _ us hl => match us, hl with | [_, _], _ => rfl
  have A_p_is_order : At K mg "is_order" s_p_is_order ["finds", "value"] := at_mk X G a4 l4 c4 k4 fun _ _ _ _ _ _ us hl => match us, hl with | [_, _], _ => rfl
  have A_p_place_in : At K mg "place_in" s_p_place_in ["order", "name"] := at_mk X G a5 l5 c5 k5 fun _ _ _ _ _ _ us hl => match us, hl with | [_, _], _ => rfl
  have A_p_keeps : At K mg "keeps" s_p_keeps ["order", "lot"] := at_mk X G a6 l6 c6 k6 fun _ _ _ _ _ _ us hl => match us, hl with | [_, _], _ => rfl
  have A_p_gaps_of : At K mg "gaps_of" s_p_gaps_of ["order", "lot"] := at_mk X G a7 l7 c7 k7 fun _ _ _ _ _ _ us hl => match us, hl with | [_, _], _ => rfl
  have A_p_is_ring_order : At K mg "is_ring_order" s_p_is_ring_order ["finds", "value"] := at_mk X G a8 l8 c8 k8 fun _ _ _ _ _ _ us hl => match us, hl with | [_, _], _ => rfl
  have A_p_is_arc : At K mg "is_arc" s_p_is_arc ["order", "lot"] := at_mk X G a9 l9 c9 k9 fun _ _ _ _ _ _ us hl => match us, hl with | [_, _], _ => rfl
  have A_p_opened : At K mg "opened" s_p_opened ["order", "name"] := at_mk X G a10 l10 c10 k10 fun _ _ _ _ _ _ us hl => match us, hl with | [_, _], _ => rfl
  have A_l_bag : At K mg "_law_bag" s_l_bag ["_law_script"] := at_mk X G a11 l11 c11 k11 fun _ _ _ _ _ _ us hl => match us, hl with | [_], _ => rfl
  have A_l_draw : At K mg "_law_draw" s_l_draw ["_law_bag_here", "_law_many"] := at_mk X G a12 l12 c12 k12 fun _ _ _ _ _ _ us hl => match us, hl with | [_, _], _ => rfl
  have A_l_pick : At K mg "_law_pick" s_l_pick ["_law_bag_here", "_law_things"] := at_mk X G a13 l13 c13 k13 fun _ _ _ _ _ _ us hl => match us, hl with | [_, _], _ => rfl
  have A_l_mixed : At K mg "_law_mixed" s_l_mixed ["_law_bag_here", "_law_things"] := at_mk X G a14 l14 c14 k14 fun _ _ _ _ _ _ us hl => match us, hl with | [_, _], _ => rfl
  have A_l_names : At K mg "_law_names" s_l_names ["_law_bag_here", "_law_many"] := at_mk X G a15 l15 c15 k15 fun _ _ _ _ _ _ us hl => match us, hl with | [_, _], _ => rfl
  have A_l_size : At K mg "_law_size" s_l_size ["_law_bag_here", "_law_most"] := at_mk X G a16 l16 c16 k16 fun _ _ _ _ _ _ us hl => match us, hl with | [_, _], _ => rfl
  have A_l_lot : At K mg "_law_lot" s_l_lot ["_law_names_here", "_law_bits"] := at_mk X G a17 l17 c17 k17 fun _ _ _ _ _ _ us hl => match us, hl with | [_, _], _ => rfl
  have A_l_lex : At K mg "_law_lex" s_l_lex ["_law_many"] := at_mk X G a18 l18 c18 k18 fun _ _ _ _ _ _ us hl => match us, hl with | [_], _ => rfl
  have A_l_some_lots : At K mg "_law_some_lots" s_l_some_lots ["_law_bag_here", "_law_many", "_law_most"] := at_mk X G a19 l19 c19 k19 fun _ _ _ _ _ _ us hl => match us, hl with | [_, _, _], _ => rfl
  have A_l_order : At K mg "_law_order" s_l_order ["_law_names_here", "_law_order_here"] := at_mk X G a20 l20 c20 k20 fun _ _ _ _ _ _ us hl => match us, hl with | [_, _], _ => rfl
  have A_l_same : At K mg "_law_same" s_l_same ["_law_found", "_law_due"] := at_mk X G a21 l21 c21 k21 fun _ _ _ _ _ _ us hl => match us, hl with | [_, _], _ => rfl
  have A_l_fields : At K mg "_law_fields" s_l_fields ["_law_e"] := at_mk X G a22 l22 c22 k22 fun _ _ _ _ _ _ us hl => match us, hl with | [_], _ => rfl
  have A_l_try : At K mg "_law_try" s_l_try ["_law_ask"] := at_mk X G a23 l23 c23 k23 fun _ _ _ _ _ _ us hl => match us, hl with | [_], _ => rfl
  have A_l_raises : At K mg "_law_raises" s_l_raises ["_law_ask", "_law_due"] := at_mk X G a24 l24 c24 k24 fun _ _ _ _ _ _ us hl => match us, hl with | [_, _], _ => rfl
  have A_l_arcs : At K mg "_law_arcs" s_l_arcs ["_law_order_here"] := at_mk X G a25 l25 c25 k25 fun _ _ _ _ _ _ us hl => match us, hl with | [_], _ => rfl
  have A_l_is_name : At K mg "_law_is_name" s_l_is_name ["_law_value"] := at_mk X G a26 l26 c26 k26 fun _ _ _ _ _ _ us hl => match us, hl with | [_], _ => rfl
  have A_l_odd_thing : At K mg "_law_odd_thing" s_l_odd_thing ["_law_bag_here", "_law_good"] := at_mk X G a27 l27 c27 k27 fun _ _ _ _ _ _ us hl => match us, hl with | [_, _], _ => rfl
  have A_l_is_ring : At K mg "_law_is_ring" s_l_is_ring ["_law_names_here", "_law_value"] := at_mk X G a28 l28 c28 k28 fun _ _ _ _ _ _ us hl => match us, hl with | [_, _], _ => rfl
  have A_l_bent_ring : At K mg "_law_bent_ring" s_l_bent_ring ["_law_bag_here", "_law_order_here", "_law_stranger"] := at_mk X G a29 l29 c29 k29 fun _ _ _ _ _ _ us hl => match us, hl with | [_, _, _], _ => rfl
  have A_l_opened_so : At K mg "_law_opened_so" s_l_opened_so ["_law_ring", "_law_names_here", "_law_at"] := at_mk X G a30 l30 c30 k30 fun _ _ _ _ _ _ us hl => match us, hl with | [_, _, _], _ => rfl
  have hm1 : mg "FindError" = some (.ref b1) := PySem.W.mg_of X G ab1
  have hm2 : mg "Missing" = some (.ref b2) := PySem.W.mg_of X G ab2
  have F_c_UnknownFind_init := fun_mk (x := "__init__") (qual := "UnknownFind.__init__") (st := s_c_UnknownFind_init) l32 c32 k32
  have E_c_UnknownFind_init : ErrC K mg "UnknownFind" "UnknownFind.__init__" s_c_UnknownFind_init ["self", "name"] ["name", "code"] C32 f32 _ := ⟨PySem.W.mg_of X G a32, ⟨⟨_, _, _, _, PySem.F.excBase_LookupError, PySem.F.store_LookupError, ei32, eo32⟩, sa32, ex32, ty32, kC32, hd32⟩, ⟨ga32, gg32, ex32, hd32⟩, (fun f hf => by
      simp only [List.mem_cons, List.not_mem_nil, or_false] at hf
      rcases hf with rfl | rfl
      · exact nf32_0
      · exact nf32_1), in32, ti32, F_c_UnknownFind_init, F_c_UnknownFind_init.binds (ps := ["self", "name"]) (fun _ _ _ _ _ _ us hl => match us, hl with | [_, _], _ => rfl), fun c1 c2 h1 h2 => by
    cases h1.symm.trans hm1
    cases h2.symm.trans hm2
    exact ca32⟩
  have gL : ∃ t, mg "_LETTERS" = some (.str abc t) := ⟨_, PySem.W.mg_of X G xL⟩
  have gM : ∃ t, mg "_MOST_LETTERS" = some (.int 6 t) := ⟨_, PySem.W.mg_of X G xM⟩
  refine ⟨PySem.W.fnOf "law" "law" (defArgs s_p_law) (defBody s_p_law) (defScope s_p_law) .none kV31 dc31 pm31 an31 (.ref cc) ct31, [(cc, Pt)], spLawT K Pt, fun p hp => ?_, fun p hp => ?_, fun p hp => ?_, fun s u => .of_eq (by rfl), fun H a ns hl _ hT hS => ⟨a, ns, rfl, hS, hl, hT _ (List.mem_singleton.mpr rfl), fun _ => rfl⟩, fun base _ _ hTB => ?_⟩
  · rw [List.mem_singleton.mp hp]
    exact own cc Pt _ _ _ _ _ _ l31 rfl rfl lc pc
  · rw [List.mem_singleton.mp hp]
    exact np
  · rw [List.mem_singleton.mp hp]
    exact PySem.W.codeHd_of_K X hcd
  have TB := hTB _ (List.mem_singleton.mpr rfl)
  have H_l_bag := has_l_bag (P := l.prog) (w := w) (base := base) Z A_l_bag
  have H_l_draw := has_l_draw (P := l.prog) (w := w) (base := base) Z A_l_draw
  have H_l_pick := has_l_pick (P := l.prog) (w := w) (base := base) Z A_l_pick (H_l_draw)
  have H_l_size := has_l_size (P := l.prog) (w := w) (base := base) Z A_l_size (H_l_draw) (H_l_pick)
  have H_l_names := has_l_names (P := l.prog) (w := w) (base := base) Z A_l_names (H_l_draw) (H_l_pick)
  have H_l_mixed := has_l_mixed (P := l.prog) (w := w) (base := base) Z A_l_mixed (H_l_draw)
  have H_l_order := has_l_order (P := l.prog) (w := w) (base := base) Z A_l_order
  have H_l_arcs := has_l_arcs (P := l.prog) (w := w) (base := base) Z A_l_arcs
  have H_l_same := has_l_same (P := l.prog) (w := w) (base := base) Z A_l_same
  have H_p_is_name := fun n : Nat => has_p_is_name (P := l.prog) (w := w) (base := base) n Z gL gM A_p_is_name
  have H_p_are_names := has_p_are_names (P := l.prog) (w := w) (base := base) Z A_p_are_names (H_p_is_name 5)
  have H_p_is_order := has_p_is_order (P := l.prog) (w := w) (base := base) Z A_p_is_order (H_p_are_names)
  have H_p_is_ring_order := has_p_is_ring_order (P := l.prog) (w := w) (base := base) Z A_p_is_ring_order (H_p_is_order)
  have H_l_odd_thing := has_l_odd_thing (P := l.prog) (w := w) (base := base) Z A_l_odd_thing (H_l_pick)
  have H_l_bent_ring := has_l_bent_ring (P := l.prog) (w := w) (base := base) Z A_l_bent_ring (H_l_draw) (H_l_odd_thing)
  have H_l_is_name := fun n : Nat => has_l_is_name (P := l.prog) (w := w) (base := base) n Z A_l_is_name
  have H_l_is_ring := has_l_is_ring (P := l.prog) (w := w) (base := base) Z A_l_is_ring (H_l_is_name 3)
  have H_l_lex := has_l_lex (P := l.prog) (w := w) (base := base) Z A_l_lex
  have H_l_some_lots := has_l_some_lots (P := l.prog) (w := w) (base := base) Z A_l_some_lots (H_l_draw) (H_l_lex)
  have H_p_rest := has_p_rest (P := l.prog) (w := w) (base := base) Z A_p_rest
  have H_p_gaps_of := has_p_gaps_of (P := l.prog) (w := w) (base := base) Z A_p_gaps_of
  have H_p_keeps := has_p_keeps (P := l.prog) (w := w) (base := base) Z A_p_keeps (H_p_gaps_of)
  have H_p_is_arc := has_p_is_arc (P := l.prog) (w := w) (base := base) Z A_p_is_arc (H_p_rest) (H_p_keeps)
  have H_l_lot := has_l_lot (P := l.prog) (w := w) (base := base) Z A_l_lot
  have H_p_copied := has_p_copied (P := l.prog) (w := w) (base := base) Z A_p_copied
  have H_c_UnknownFind_init : HasE l.prog w K mg base "UnknownFind" "UnknownFind.__init__" s_c_UnknownFind_init ["self", "name"] ["name", "code"] 7 (spInit1 K "UnknownFind" "name" 6) := ⟨_, _, _, E_c_UnknownFind_init, has_c_UnknownFind_init (P := l.prog) (w := w) (base := base) Z F_c_UnknownFind_init (H_p_copied)⟩
  have H_p_place_in := has_p_place_in (P := l.prog) (w := w) (base := base) Z A_p_place_in (H_c_UnknownFind_init)
  have H_p_opened := has_p_opened (P := l.prog) (w := w) (base := base) Z A_p_opened (H_p_place_in)
  have H_l_opened_so := has_l_opened_so (P := l.prog) (w := w) (base := base) Z A_l_opened_so (H_l_order) (H_l_same) (H_p_opened)
  have H_l_fields := has_l_fields (P := l.prog) (w := w) (base := base) Z A_l_fields
  exact has_p_law (P := l.prog) (w := w) (base := base) Z F_law rfl TB hm1 hm2 (H_l_bag) (H_l_draw) (H_l_pick) (H_l_size) (H_l_names) (H_l_mixed) (H_l_order) (H_l_arcs) (H_l_same) (H_p_is_ring_order) (H_l_bent_ring) (H_l_is_ring) (H_l_some_lots) (H_p_is_arc) (H_l_lot) (H_l_opened_so) (H_l_odd_thing) (H_p_opened) (H_l_fields) A_l_try A_l_raises
theorem walk {l : PySem.W.OpenLaw} {q : Program} {loose : List Str} {XP : (Str → Option Value) → Heap → Prop} {YP : World → Heap → Prop} {d : DefRec} {K : Params → PySem.W.Frag} (hn : l.most = some 63) (hdf : d.params.defaults = []) (hrec : ((recsOf q).any fun e => e.name == d.name) = true)
    (hY : ∀ (w : World) (h : Heap), YP w h → (K w.params).In h)
    (F : ∀ (w : World) (mg : Str → Option Value) (fa : Addr) (h : Heap), (K w.params).In h → h.Ns mainGlobals mg → mg d.name = some (.ref fa) → LamX.OwnTab (K w.params) fa h → LamX.LawAtS l w (K w.params) CX0 14 63 "_law_script" mg fa h) :
    PySem.W.WalkO q loose XP YP l.row.toRowW d [] (fun f vs => PySem.call f vs) :=
  LamX.walk_ofOwn (n := 63) (k := 14) (x := "_law_script") (CX := fun _ => CX0) hn (by decide) hdf ⟨rfl, by decide, by decide⟩ hrec hY (fun w mg fa h _ kx g hm o => F w mg fa h kx g hm o) fun _ _ _ _ _ z => z
end Th
open PySem PySem.W PyProof.Rows
set_option maxRecDepth 100000 in
set_option maxHeartbeats 0 in
theorem PySem.Challenge.cw_threeorders_k51_ring_orders_judged_holds : PySem.Challenge.rw_threeorders_k51_ring_orders_judged.Holds := by
  w_on; o_law; k_head; (case hw => w_witness2)
  k_fill
  refine Th.walk (l := PySem.Challenge.rw_threeorders_k51_ring_orders_judged) rfl rfl (by decide +kernel) (fun w h Y => Y.1) ?F
  case F =>
    intro w mg fa h KX G hmg own
    refine' Th.all_mk KX G own hmg ?a0 ?l0 ?c0 ?k0 ?a1 ?l1 ?c1 ?k1 ?a2 ?l2 ?c2 ?k2 ?a3 ?l3 ?c3 ?k3 ?a4 ?l4 ?c4 ?k4 ?a5 ?l5 ?c5 ?k5 ?a6 ?l6 ?c6 ?k6 ?a7 ?l7 ?c7 ?k7 ?a8 ?l8 ?c8 ?k8 ?a9 ?l9 ?c9 ?k9 ?a10 ?l10 ?c10 ?k10 ?a11 ?l11 ?c11 ?k11 ?a12 ?l12 ?c12 ?k12 ?a13 ?l13 ?c13 ?k13 ?a14 ?l14 ?c14 ?k14 ?a15 ?l15 ?c15 ?k15 ?a16 ?l16 ?c16 ?k16 ?a17 ?l17 ?c17 ?k17 ?a18 ?l18 ?c18 ?k18 ?a19 ?l19 ?c19 ?k19 ?a20 ?l20 ?c20 ?k20 ?a21 ?l21 ?c21 ?k21 ?a22 ?l22 ?c22 ?k22 ?a23 ?l23 ?c23 ?k23 ?a24 ?l24 ?c24 ?k24 ?a25 ?l25 ?c25 ?k25 ?a26 ?l26 ?c26 ?k26 ?a27 ?l27 ?c27 ?k27 ?a28 ?l28 ?c28 ?k28 ?a29 ?l29 ?c29 ?k29 ?a30 ?l30 ?c30 ?k30 ?a31 ?l31 ?c31 ?k31 ?lc ?pc ?np ?hcd ?z_len ?z_range ?z_int ?z_abs ?z_isinstance ?z_all ?z_any ?z_sorted ?z_set ?z_list ?z_tuple ?z_str ?z_bool ?z_enumerate ?z_min ?z_max ?ab1 ?ab2 ?a32 ?ei32 ?eo32 ?sa32 ?ex32 ?ty32 ?kC32 ?hd32 ?ga32 ?gg32 ?in32 ?ti32 ?l32 ?c32 ?k32 ?ca32 ?nf32_0 ?nf32_1 ?xL ?xM
    (case a0 => k_is)
    (case l0 => k_is)
    (case c0 => k_is)
    (case k0 => k_is)
    (case a1 => k_is)
    (case l1 => k_is)
    (case c1 => k_is)
    (case k1 => k_is)
    (case a2 => k_is)
    (case l2 => k_is)
    (case c2 => k_is)
    (case k2 => k_is)
    (case a3 => k_is)
    (case l3 => k_is)
    (case c3 => k_is)
    (case k3 => k_is)
    (case a4 => k_is)
    (case l4 => k_is)
    (case c4 => k_is)
    (case k4 => k_is)
    (case a5 => k_is)
    (case l5 => k_is)
    (case c5 => k_is)
    (case k5 => k_is)
    (case a6 => k_is)
    (case l6 => k_is)
    (case c6 => k_is)
    (case k6 => k_is)
    (case a7 => k_is)
    (case l7 => k_is)
    (case c7 => k_is)
    (case k7 => k_is)
    (case a8 => k_is)
    (case l8 => k_is)
    (case c8 => k_is)
    (case k8 => k_is)
    (case a9 => k_is)
    (case l9 => k_is)
    (case c9 => k_is)
    (case k9 => k_is)
    (case a10 => k_is)
    (case l10 => k_is)
    (case c10 => k_is)
    (case k10 => k_is)
    (case a11 => k_is)
    (case l11 => k_is)
    (case c11 => k_is)
    (case k11 => k_is)
    (case a12 => k_is)
    (case l12 => k_is)
    (case c12 => k_is)
    (case k12 => k_is)
    (case a13 => k_is)
    (case l13 => k_is)
    (case c13 => k_is)
    (case k13 => k_is)
    (case a14 => k_is)
    (case l14 => k_is)
    (case c14 => k_is)
    (case k14 => k_is)
    (case a15 => k_is)
    (case l15 => k_is)
    (case c15 => k_is)
    (case k15 => k_is)
    (case a16 => k_is)
    (case l16 => k_is)
    (case c16 => k_is)
    (case k16 => k_is)
    (case a17 => k_is)
    (case l17 => k_is)
    (case c17 => k_is)
    (case k17 => k_is)
    (case a18 => k_is)
    (case l18 => k_is)
    (case c18 => k_is)
    (case k18 => k_is)
    (case a19 => k_is)
    (case l19 => k_is)
    (case c19 => k_is)
    (case k19 => k_is)
    (case a20 => k_is)
    (case l20 => k_is)
    (case c20 => k_is)
    (case k20 => k_is)
    (case a21 => k_is)
    (case l21 => k_is)
    (case c21 => k_is)
    (case k21 => k_is)
    (case a22 => k_is)
    (case l22 => k_is)
    (case c22 => k_is)
    (case k22 => k_is)
    (case a23 => k_is)
    (case l23 => k_is)
    (case c23 => k_is)
    (case k23 => k_is)
    (case a24 => k_is)
    (case l24 => k_is)
    (case c24 => k_is)
    (case k24 => k_is)
    (case a25 => k_is)
    (case l25 => k_is)
    (case c25 => k_is)
    (case k25 => k_is)
    (case a26 => k_is)
    (case l26 => k_is)
    (case c26 => k_is)
    (case k26 => k_is)
    (case a27 => k_is)
    (case l27 => k_is)
    (case c27 => k_is)
    (case k27 => k_is)
    (case a28 => k_is)
    (case l28 => k_is)
    (case c28 => k_is)
    (case k28 => k_is)
    (case a29 => k_is)
    (case l29 => k_is)
    (case c29 => k_is)
    (case k29 => k_is)
    (case a30 => k_is)
    (case l30 => k_is)
    (case c30 => k_is)
    (case k30 => k_is)
    (case a31 => k_is)
    (case l31 => k_is)
    (case c31 => k_is)
    (case k31 => k_is)
    (case lc => k_is)
    (case pc => exact by rfl)
    (case np => first | kernel_rfl | rfl | decide +kernel)
    (case hcd => first | kernel_rfl | rfl | decide +kernel)
    (case z_len => k_is)
    (case z_range => k_is)
    (case z_int => k_is)
    (case z_abs => k_is)
    (case z_isinstance => k_is)
    (case z_all => k_is)
    (case z_any => k_is)
    (case z_sorted => k_is)
    (case z_set => k_is)
    (case z_list => k_is)
    (case z_tuple => k_is)
    (case z_str => k_is)
    (case z_bool => k_is)
    (case z_enumerate => k_is)
    (case z_min => k_is)
    (case z_max => k_is)
    (case ab1 => k_is)
    (case ab2 => k_is)
    (case a32 => k_is)
    (case ei32 => first | kernel_rfl | rfl | decide +kernel)
    (case eo32 => first | kernel_rfl | rfl | decide +kernel)
    (case sa32 => k_is)
    (case ex32 => k_is)
    (case ty32 => k_is)
    (case kC32 => k_is)
    (case hd32 => k_is)
    (case ga32 => k_is)
    (case gg32 => k_is)
    (case in32 => k_is)
    (case ti32 => k_is)
    (case l32 => k_is)
    (case c32 => k_is)
    (case k32 => k_is)
    (case ca32 => first | kernel_rfl | rfl | decide +kernel)
    (case nf32_0 => k_is)
    (case nf32_1 => k_is)
    (case xL => k_is)
    (case xM => k_is)
