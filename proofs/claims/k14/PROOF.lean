import PyProof.Rows.All
import Wide.All
import OpenK.AllK
import Wide.FinOn
import PyProof.EqAt
import PyProof.EqKinds
import PyProof.TupleCall
import HandS.Base
import HandS.Call
import HandS.List
import HandS.Set
import HandS.SetFor
import HandS.Comp
import HandS.Iter
import HandS.Text
import HandS.Ends
import HandS.Words
import HandS.WordsList
import HandS.IsInst
import HandS.Style
import HandS.TupAny
import HandS.More
import HandS.Walk
import HandS.Wide
import HandS.Codes
import HandS.ReCall
import HandS.Strs
import PySem.Challenge.RW_threeorders_k14_statements_judged
set_option Elab.async false
set_option linter.all false
set_option maxRecDepth 100000
set_option maxHeartbeats 8000000
/-! sets of texts: set(xs) of a list or tuple of texts, sorted of it -/
namespace L2
open PySem PySem.Spec PyProof.Rows

/-- the text that an entry of a set's table holds -/
def tagOf (v : Value) : Str := match v with | .str x _ => x | _ => Str.empty
def tagE (e : Int × Value) : Str := tagOf e.2

/-- at a stands a set whose members are the texts of l, each once; its table can be walked -/
def TxSet (P : Program) (w : World) (h : Heap) (a : Addr) (l : List Str) : Prop :=
  ∃ o es ep t, h.get? a = some o ∧ o.ExactSet ∧ o.data = .set es ep t ∧
    (∀ e ∈ es.toList, ∃ tk, e.2 = Value.str (tagE e) tk ∧ e.1 = (PySem.strKind P w).hash (tagE e)) ∧
    (es.toList.map tagE).Perm l ∧ l.Nodup ∧ es.size < scanBound ∧ t.fits es.size = true ∧ Ris t.place.toList ∧
    (w.params.followText "set-order" = true ∨ t.led = true)

section
variable {P : Program} {w : World} {h h' : Heap} {a : Addr} {l : List Str}
theorem TxSet.stay (R : TxSet P w h a l) (k : ∀ o, h.get? a = some o → h'.get? a = some o) : TxSet P w h' a l :=
  let ⟨o, es, ep, t, ho, r⟩ := R
  ⟨o, es, ep, t, k o ho, r⟩
theorem TxSet.perm {m : List Str} (R : TxSet P w h a l) (p : l.Perm m) : TxSet P w h a m :=
  let ⟨o, es, ep, t, ho, hx, hd, g, pm, nd, r⟩ := R
  ⟨o, es, ep, t, ho, hx, hd, g, pm.trans p, p.nodup_iff.mp nd, r⟩
theorem tx_elems {es : List (Int × Value)} (g : ∀ e ∈ es, ∃ tk, e.2 = Value.str (tagE e) tk ∧ e.1 = (PySem.strKind P w).hash (tagE e)) : ElemsOf (PySem.strKind P w) es := by
  intro e he
  obtain ⟨tk, h1, h2⟩ := g e he
  refine ⟨⟨tagE e, ?_, h2⟩, ?_⟩
  · rw [h1]
    exact PySem.strKind_is P w (tagE e) tk
  · rw [h1]
    rfl
theorem tx_is {es : List (Int × Value)} (g : ∀ e ∈ es, ∃ tk, e.2 = Value.str (tagE e) tk ∧ e.1 = (PySem.strKind P w).hash (tagE e)) {e : Int × Value} (he : e ∈ es) (x : Str) : (PySem.strKind P w).is x e.2 = true ↔ tagE e = x := by
  obtain ⟨tk, h1, _⟩ := g e he
  constructor
  · intro q
    rw [h1] at q
    obtain ⟨t, z⟩ := Value.isStrOf_shape (show Value.isStrOf x (Value.str (tagE e) tk) = true from q)
    injection z
  · intro q
    rw [h1, q]
    exact PySem.strKind_is P w x tk
end

section
variable {P : Program} {w : World} {A : Around} {E : Value → Shared → Prop} {s : Shared} {a : Addr} {l : List Str}

/-- the set's store, and the table's growth behind it -/
theorem tx_store {g : Bool → Sem Unit} (hg : ∀ (b : Bool) (s₁ : Shared) (Q' : Unit → Shared → Prop), Q' () s₁ → wpAny (model P w) A (g b) Q' E s₁)
    {o : Obj} {es : Array (Int × Value)} {ep : Nat} {t : SetTable} (ho : s.heap.get? a = some o) (hex : o.ExactSet) (hd : o.data = .set es ep t)
    {fs : Array (Int × Value)} {u : SetTable} {m : List Str}
    (hgood : ∀ e ∈ fs.toList, ∃ tk, e.2 = Value.str (tagE e) tk ∧ e.1 = (PySem.strKind P w).hash (tagE e)) (hp : (fs.toList.map tagE).Perm m) (hm : m.Nodup)
    (hb : fs.size < scanBound) (hf : u.fits fs.size = true) (hr : Ris u.place.toList) (hl : w.params.followText "set-order" = true ∨ u.led = true) {dum : Bool} {R : Option Bool → Shared → Prop}
    (fin : ∀ h', Heap.SameBut a s.heap h' → TxSet P w h' a m → R (some true) { s with heap := h' }) :
    wpAny (model P w) A (do
        storeSet a fs u
        if (!dum && u.tooFull) = true then do
            g (relayAll u fs (SetTable.grown fs.size)).2.2
            storeSet a (relayAll u fs (SetTable.grown fs.size)).1 (relayAll u fs (SetTable.grown fs.size)).2.1
            pure (some true)
          else pure (some true)) R E s := by
  refine wpAny_bind (wpAny_storeSet_of ho hd ?_ (fits_of_scanBound hb))
  have q1 := store_at (es' := fs) (t' := u) ho hd
  have b1 := Heap.SameBut.update s.heap a (Obj.putSet fs u)
  split
  · have c1 := relayAll_perm u fs (SetTable.grown fs.size)
    have c2 := relayAll_fits u fs (SetTable.grown fs.size)
    have c3 := relayAll_ris u fs (SetTable.grown fs.size)
    have c4 := relayAll_led u fs (SetTable.grown fs.size)
    generalize relayAll u fs (SetTable.grown fs.size) = Z at c1 c2 c3 c4 ⊢
    obtain ⟨gs, v, gave⟩ := Z
    dsimp only at c1 c2 c3 c4 ⊢
    have z1 : gs.size = fs.size := by rw [← Array.length_toList, c1.length_eq, Array.length_toList]
    have z2 : gs.size < scanBound := by rw [z1]; exact hb
    refine wpAny_bind (hg _ _ _ ?_)
    refine wpAny_bind (wpAny_storeSet_of q1 rfl ?_ (fits_of_scanBound z2))
    have q2 := store_at (es' := gs) (t' := v) q1 rfl
    refine wpAny_pure (fin _ (b1.trans (Heap.SameBut.update _ a _)) ?_)
    refine ⟨_, gs, _, v, q2, hex, rfl, fun e he => hgood e (c1.mem_iff.mp he), (c1.map tagE).trans hp, hm, z2, c2, c3, ?_⟩
    rcases hl with z | z
    · exact .inl z
    · exact .inr (c4.trans z)
  · exact wpAny_pure (fin _ b1 ⟨_, fs, _, u, q1, hex, rfl, hgood, hp, hm, hb, hf, hr, hl⟩)

/-- one text more -/
theorem tx_put {x : Str} {tk : Tok} {Q : Bool → Shared → Prop} (R : TxSet P w s.heap a l) (room : l.length + 1 < scanBound)
    (fin : ∀ h' b, Heap.SameBut a s.heap h' → TxSet P w h' a (if x ∈ l then l else x :: l) → Q b { s with heap := h' }) :
    wpAny (model P w) A (setAddHashed a (.str x tk) ((PySem.strKind P w).hash x)) Q E s := by
  obtain ⟨o, es, ep, t, ho, hex, hd, g, hp, nd, hb, hf, hr, hl⟩ := R
  have hkey : (PySem.strKind P w).is x (.str x tk) = true := PySem.strKind_is P w x tk
  have hsc : (Value.str x tk).scannable = true := rfl
  have hel := tx_elems g
  unfold setAddHashed setAddHashedIn
  refine wpAny_holding (wpAny_bind (wpAny_setState_of ho hd hf ?_))
  dsimp only
  rw [byScan_of hsc hb hel]
  simp only [↓reduceIte]
  unfold setAddByScan
  refine wpAny_bind (wpAny_bind (wpAny_rule (wpAny_bind (wpAny_setScan_of hkey ho hd hf hel ?_))))
  cases hfi : List.findIdx? (fun e => (PySem.strKind P w).is x e.2) es.toList with
  | some j =>
    dsimp only
    obtain ⟨hj, pj, _⟩ := List.findIdx?_eq_some_iff_getElem.mp hfi
    have hx : x ∈ l := hp.mem_iff.mp (List.mem_map.mpr ⟨es.toList[j], List.getElem_mem hj, (tx_is g (List.getElem_mem hj) x).mp pj⟩)
    refine wpAny_pure (wpAny_pure (fin s.heap _ (Heap.SameBut.refl a s.heap) ?_))
    rw [if_pos hx]
    exact ⟨o, es, ep, t, ho, hex, hd, g, hp, nd, hb, hf, hr, hl⟩
  | none =>
    dsimp only
    have hx : x ∉ l := fun z => by
      obtain ⟨e, he, q⟩ := List.mem_map.mp (hp.mem_iff.mpr z)
      have c := List.findIdx?_eq_none_iff.mp hfi e he
      rw [(tx_is g he x).mpr q] at c
      cases c
    have gw : ∀ (b : Bool) {s₁ : Shared} {Q' : Unit → Shared → Prop}, Q' () s₁ → wpAny (model P w) A (match b with | true => rule "set.scan.the-table-gave-way" | false => pure ()) Q' E s₁ :=
      fun b s₁ Q' q => by cases b <;> first | exact wpAny_pure q | exact wpAny_rule q
    have d1 := layNew_perm t es ((PySem.strKind P w).hash x) (.str x tk)
    have d2 := layNew_fits t es ((PySem.strKind P w).hash x) (.str x tk)
    have d3 := layNew_ris t es ((PySem.strKind P w).hash x) (.str x tk) hr
    have d4 := layNew_led t es ((PySem.strKind P w).hash x) (.str x tk)
    generalize layNew t es ((PySem.strKind P w).hash x) (.str x tk) = Z at d1 d2 d3 d4 ⊢
    obtain ⟨fs, u, dum, gave⟩ := Z
    dsimp only at d1 d2 d3 d4 ⊢
    rw [Array.toList_push] at d1
    have e1 : fs.toList.Perm (((PySem.strKind P w).hash x, Value.str x tk) :: es.toList) := d1.trans (List.perm_append_singleton _ _)
    have e2 : (fs.toList.map tagE).Perm (x :: l) := (e1.map tagE).trans (List.Perm.cons x hp)
    have good : ∀ e ∈ fs.toList, ∃ tk, e.2 = Value.str (tagE e) tk ∧ e.1 = (PySem.strKind P w).hash (tagE e) := fun e he => by
      rcases List.mem_cons.mp (e1.mem_iff.mp he) with z | z
      · rw [z]; exact ⟨tk, rfl, rfl⟩
      · exact g e z
    have e3 : (x :: l).Nodup := List.nodup_cons.mpr ⟨hx, nd⟩
    have e4 : fs.size = l.length + 1 := by rw [← Array.length_toList, ← List.length_map (f := tagE), e2.length_eq]; rfl
    have e5 : fs.size < scanBound := by rw [e4]; exact room
    have e6 : w.params.followText "set-order" = true ∨ u.led = true := by
      rcases hl with z | z
      · exact .inl z
      · exact .inr (d4.trans z)
    have last : ∀ h' b, Heap.SameBut a s.heap h' → TxSet P w h' a (x :: l) → Q b { s with heap := h' } := fun h' b sb r => fin h' b sb (by rw [if_neg hx]; exact r)
    refine wpAny_bind (gw _ ?_)
    split
    · refine wpAny_bind ?_
      rw [hashByValue_scannable 8 hsc]
      refine wpAny_pure ?_
      refine tx_store ?_ ho hex hd good e2 e3 e5 ?_ ?_ ?_ ?_
      · intro b s₁ Q' q; cases b <;> first | exact wpAny_pure q | exact wpAny_rule q
      · first | (split <;> first | exact d2 | exact SetTable.fits_plain_off d2) | exact d2
      · first | (split <;> exact d3) | exact d3
      · first | (split <;> exact e6) | exact e6
      · intro h' sb r; dsimp only; exact wpAny_pure (last h' _ sb r)
    · refine wpAny_bind (wpAny_pure ?_)
      simp only [↓reduceIte]
      refine tx_store ?_ ho hex hd good e2 e3 e5 d2 d3 e6 ?_
      · intro b s₁ Q' q; cases b <;> first | exact wpAny_pure q | exact wpAny_rule q
      · intro h' sb r; dsimp only; exact wpAny_pure (last h' _ sb r)

/-- the texts of xs, each once, as a set that took them one by one holds them -/
def once : List Str → List Str → List Str
  | acc, [] => acc
  | acc, x :: r => once (if x ∈ acc then acc else x :: acc) r
theorem once_nodup : ∀ (xs acc : List Str), acc.Nodup → (once acc xs).Nodup
  | [], _, h => h
  | x :: r, acc, h => by
    unfold once
    refine once_nodup r _ ?_
    split
    · exact h
    · exact List.nodup_cons.mpr ⟨by assumption, h⟩
theorem once_mem : ∀ (xs acc : List Str) (y : Str), y ∈ once acc xs ↔ y ∈ acc ∨ y ∈ xs
  | [], acc, y => by simp [once]
  | x :: r, acc, y => by
    unfold once
    rw [once_mem r _ y]
    split
    · rename_i hx
      constructor
      · rintro (z | z)
        · exact .inl z
        · exact .inr (List.mem_cons_of_mem _ z)
      · rintro (z | z)
        · exact .inl z
        · rcases List.mem_cons.mp z with e | z
          · exact .inl (e ▸ hx)
          · exact .inr z
    · simp only [List.mem_cons]
      constructor
      · rintro ((z | z) | z)
        · exact .inr (.inl z)
        · exact .inl z
        · exact .inr (.inr z)
      · rintro (z | z | z)
        · exact .inl (.inr z)
        · exact .inl (.inl z)
        · exact .inr z
theorem once_length : ∀ (xs acc : List Str), (once acc xs).length ≤ acc.length + xs.length
  | [], acc => by simp [once]
  | x :: r, acc => by
    unfold once
    have q := once_length r (if x ∈ acc then acc else x :: acc)
    rw [List.length_cons]
    split at q
    · rw [if_pos (by assumption)]; omega
    · rw [if_neg (by assumption)]; rw [List.length_cons] at q; omega

/-- the loop of set(xs): one text after another -/
theorem tx_loop {I : Addr} {fp wr : List Addr} {G : Array GenState → Array GenState → Prop} {n : Nat} {Pv : Nat → Value → Prop} {St : Nat → Shared → Prop} {R : Result → Shared → Prop}
    (W : WalksS P w A.in1 I fp wr G n Pv St) (S : Addr) (hSf : S ∉ fp) (xs : List Str) (hn : n = xs.length) (hval : ∀ i v, Pv i v → ∃ x t, xs[i]? = some x ∧ v = .str x t) :
    ∀ (k i : Nat) (acc : List Str) (s : Shared), n - i = k → i ≤ n → St i s → TxSet P w s.heap S acc → acc.length + k + 1 < scanBound →
      (∀ s', Moved (S :: wr) G s s' → TxSet P w s'.heap S (once acc (xs.drop i)) → R (.ok (.ret .none)) s') →
      codeAny (model P w) A (.builtin "set.update.loop" ⟨[.ref S, .ref I], []⟩) R s := by
  have nw : S ∉ wr := fun h => hSf (W.sub _ h)
  have sb : ∀ b ∈ wr, b ∈ S :: wr := fun b hb => List.mem_cons_of_mem _ hb
  intro k
  induction k with
  | zero =>
    intro i acc s hk hi hst hS _ hR
    have e : i = n := by omega
    subst e
    refine codeAny_builtin F.entry_set_update_loop ?_
    rw [Around.under_plainId F.plain_set_update_loop _]
    show wpAny _ A.in1 (pyNext (.ref I) >>= _) _ _ s
    refine wpAny_bind (W.done s _ _ hst fun s' hm => ?_)
    show wpAny _ A.in1 (ret Value.none) _ _ s'
    have q : xs.drop i = [] := List.drop_eq_nil_of_le (by omega)
    rw [q] at hR
    exact wpAny_pure (hR s' (hm.mono sb) (hS.stay fun o e => hm.heap S o nw e))
  | succ k ih =>
    intro i acc s hk hi hst hS hroom hR
    have lt : i < n := by omega
    refine codeAny_builtin F.entry_set_update_loop ?_
    rw [Around.under_plainId F.plain_set_update_loop _]
    show wpAny _ A.in1 (pyNext (.ref I) >>= _) _ _ s
    refine wpAny_bind (W.item i s _ _ lt hst fun v s' hP hst' hm => ?_)
    obtain ⟨x, t, hx, rfl⟩ := hval i v hP
    have hS1 : TxSet P w s'.heap S acc := hS.stay fun o e => hm.heap S o nw e
    show wpAny _ A.in1 (holding [Value.str x t] (setAdd S (.str x t)) >>= _) _ _ s'
    refine wpAny_bind (wpAny_holding ?_)
    unfold setAdd
    refine wpAny_holding ?_
    refine wpAny_bind ((PySem.strKind P w).pyHash (k := x) (PySem.strKind_is _ _ _ _) ?_)
    refine tx_put (s := { s' with toks := s'.toks + 1 }) hS1 (by omega) fun h' b hsb hS2 => ?_
    have ed : xs.drop i = x :: xs.drop (i + 1) := by
      have hlt : i < xs.length := by omega
      rw [List.drop_eq_getElem_cons hlt]
      have q : xs[i] = x := by
        rw [List.getElem?_eq_getElem hlt] at hx
        exact Option.some.inj hx
      rw [q]
    have hlen : (if x ∈ acc then acc else x :: acc).length ≤ acc.length + 1 := by
      split
      · omega
      · exact Nat.le_refl _
    refine wpAny_pure ⟨plainId_quiet F.plain_set_update_loop _, ih (i + 1) _ _ (by omega) lt (W.frame _ s' _ _ hst' (Nat.le_succ _) fun b hb o e => ?_) hS2 (by omega) fun s'' hm'' hS'' => ?_⟩
    · rw [hsb.2 b (fun h : b = S => hSf (by rw [← h]; exact hb))]; exact e
    · refine hR s'' (Moved.trans W.gtrans ((hm.mono sb).then_heap (Nat.le_succ _) fun b o hb e => ?_) hm'') (by rw [ed]; exact hS'')
      rw [hsb.2 b (fun h : b = S => hb (by rw [h]; exact List.mem_cons_self))]; exact e
end

/-- the set that set() has just laid -/
abbrev txNew (w : World) : Obj := { cls := .type "set", dict := none, data := .set #[] 0 (.fresh 0 0 (!w.params.followText "set-order")) }
theorem txNew_at {P : Program} {w : World} {h : Heap} {a : Addr} (ho : h.get? a = some (txNew w)) : TxSet P w h a [] :=
  ⟨_, #[], 0, _, ho, ⟨rfl, rfl, rfl⟩, rfl, (fun e he => by simp at he), (by simp), List.nodup_nil, (by decide), (by rfl), List.Pairwise.nil, by
    show _ ∨ (!w.params.followText "set-order") = true
    cases w.params.followText "set-order"
    · exact .inr rfl
    · exact .inl rfl⟩
theorem txs_at : ∀ {us : List Value} {xs : List Str}, StrsAre us xs → ∀ (i : Nat) (v : Value), us[i]? = some v → ∃ x t, xs[i]? = some x ∧ v = .str x t
  | _, _, .nil, i, v, h => by simp at h
  | _, _, .cons y t r, 0, v, h => ⟨y, t, rfl, by simpa using h.symm⟩
  | _, _, .cons y t r, i + 1, v, h => by
    simp only [List.getElem?_cons_succ] at h
    exact txs_at r i v h
section
variable {P : Program} {w : World} {A : Around} {E : Value → Shared → Prop} {s : Shared}

set_option maxRecDepth 100000 in
set_option maxHeartbeats 6400000 in
/-- set(xs), xs a tuple of texts -/
theorem tx_call_tuple {l : Addr} {items : Array Value} (xs : List Str) {Q : Value → Shared → Prop} (hh : A.handled = none) (hl : s.heap.IsTuple l items) (hit : StrsAre items.toList xs) (hb : xs.length + 1 < scanBound)
    (fin : ∀ (h' : Heap) (tk : Nat), TxSet P w h' s.heap.objs.size (once [] xs) → (∀ b o, s.heap.get? b = some o → h'.get? b = some o) → Q (.ref s.heap.objs.size) { s with heap := h', toks := tk }) :
    wpAny (model P w) A (call (.type "set") [.ref l]) Q E s := by
  have isz : items.size = xs.length := by
    have q := StrsAre.len_eq hit
    rw [Array.length_toList] at q
    exact q
  obtain ⟨c, tl, hmro⟩ := F.called_set.mro
  have hmade := F.called_set.made
  have hsub := F.called_set.sub
  refine wpAny_call (codeAny_of_tree ?_)
  show wpAny _ _ (callAny (.type "set") _) _ _ _
  refine wpAny_pure ⟨Code.quiet_builtin _ (by decide +kernel), codeAny_builtin F.entry_type_call ?_⟩
  rw [Around.under_plain (weight_type_call_type "set" [.ref l] []) rfl]
  have h1 := F.called_set.notType
  have h2 := F.called_set.canCreate
  have hct := F.typeCall_set_1 (.ref l)
  repeat (any_goals (first | assumption | wp_step))
  refine codeAny_mono (code_set_led1 (.ref l) (E := E) (Q₁ := fun obj s₁ => obj = .ref s.heap.objs.size ∧ s₁ = { s with heap := s.heap.push (txNew w) }) ⟨rfl, rfl⟩) fun r s₁ hr => ?_
  cases r with
  | error e => exact hr
  | ok fl =>
    cases fl with
    | ret obj =>
      obtain ⟨rfl, rfl⟩ := hr
      have atS : (s.heap.push (txNew w)).get? s.heap.objs.size = some (txNew w) := Heap.get?_push_size _ rfl
      have hT : Shared.TypeIs { s with heap := s.heap.push (txNew w) } (.ref s.heap.objs.size) "set" := ⟨_, atS, rfl⟩
      have hli := F.called_set.init.lookup
      have hbi := F.called_set.init.bind (.ref s.heap.objs.size)
      repeat (any_goals (first | assumption | wp_step))
      refine codeAny_mono (codeAny_call_builtin (R := wants (fun r s₂ => r = .none ∧ ∃ h' tk, s₂ = { s with heap := h', toks := tk } ∧ TxSet P w h' s.heap.objs.size (once [] xs) ∧
          (∀ b o, s.heap.get? b = some o → h'.get? b = some o)) E) F.called_set.init.plain F.entry_set_init (check_set_init_1 hT ?_)) fun r₂ s₂ hr₂ => ?_
      · obtain ⟨ol, hol, hcl, nl, hdl⟩ := hl
        obtain ⟨ocls, odict, odata, oslots⟩ := ol
        simp only at hcl hdl
        subst hcl; subst hdl
        have old : (s.heap.push (txNew w)).get? l = some { cls := .type "tuple", dict := odict, data := .seq items nl, slots := oslots } := Heap.get?_push_of_some _ hol
        have hsls := F.sub_tuple_set
        have hslf := F.sub_tuple_frozenset
        have hne : (Value.type "tuple" == Value.type "dict") = false := by decide
        have hl1 : (s.heap.push (txNew w)).IsTuple l items := ⟨_, old, rfl, nl, rfl⟩
        unfold Builtin.«set.__init__» noKeywords Builtin.Frozenset.updateFrom
        generalize hPI : pyIter = PI
        wp_walk
        subst hPI
        refine wpAny_pyIter_tuple hl1 ?_
        refine wpAny_bind (wpAny_runValue ?_)
        have lS : l < s.heap.objs.size := Heap.lt_size hol
        have hh3 : A.in1.in1.in1.handled = none := by simp [hh]
        have apart : l ≠ (s.heap.push (txNew w)).objs.size := by
          rw [Heap.size_push]; exact Nat.ne_of_lt (Nat.lt_succ_of_lt lS)
        have notfp : s.heap.objs.size ∉ [(s.heap.push (txNew w)).objs.size, l] := by
          rw [Heap.size_push]; simp only [List.mem_cons, List.mem_singleton, List.not_mem_nil, or_false, not_or]
          exact ⟨Nat.ne_of_lt (Nat.lt_succ_self _), Nat.ne_of_gt lS⟩
        have hval : ∀ (i : Nat) (v : Value), items[i]? = some v → ∃ x t, xs[i]? = some x ∧ v = .str x t := fun i v hv => txs_at hit i v (by rw [Array.getElem?_toList]; exact hv)
        have at0 : ((s.heap.push (txNew w)).push { cls := .type "tuple_iterator", data := .fields #[.ref l, .int 0 0] }).get? s.heap.objs.size = some (txNew w) := Heap.get?_push_of_some _ atS
        refine tx_loop ((Walks.tuple hh3 _ l apart items).toS) s.heap.objs.size notfp xs isz hval (items.size - 0) 0 [] _ (by omega) (Nat.zero_le _)
          ⟨⟨_, Heap.get?_push_size _ rfl, rfl, rfl⟩, (hl1.push _)⟩ (txNew_at at0) (by rw [isz]; simpa using hb) fun s' hm hS => ?_
        obtain ⟨h', g2, d', tk', os'⟩ := s'
        have eg : g2 = s.gens := hm.gens
        have ed : d' = s.drawn := hm.drawn
        have eo : os' = s.os := hm.os
        subst eg; subst ed; subst eo
        show wpAny _ _ _ _ _ _
        refine wpAny_pure ?_
        show wpAny _ _ (ret Value.none) _ _ _
        refine wpAny_pure ⟨rfl, h', tk', rfl, hS, fun b o e => ?_⟩
        have b0 : b < s.heap.objs.size := Heap.lt_size e
        have b1 : b ≠ s.heap.objs.size := Nat.ne_of_lt b0
        have b2 : b ≠ (s.heap.push (txNew w)).objs.size := by
          rw [Heap.size_push]; exact Nat.ne_of_lt (Nat.lt_succ_of_lt b0)
        exact hm.heap b o (by simp only [List.mem_cons, List.mem_singleton, List.not_mem_nil, or_false, not_or]; exact ⟨b1, b2⟩) (Heap.get?_push_of_some _ (Heap.get?_push_of_some _ e))
      · cases r₂ with
        | error e => exact hr₂
        | ok fl₂ =>
          cases fl₂ with
          | ret r =>
            obtain ⟨rfl, h', tk, rfl, hS, kp⟩ := hr₂
            repeat (any_goals (first | assumption | wp_step))
            exact fin _ _ hS kp
          | _ => exact hr₂.elim
    | _ => exact hr.elim

set_option maxRecDepth 100000 in
set_option maxHeartbeats 6400000 in
/-- set(xs), xs a list of texts -/
theorem tx_call_list {l : Addr} {items : Array Value} (xs : List Str) {Q : Value → Shared → Prop} (hh : A.handled = none) (hl : s.heap.IsList l items) (hit : StrsAre items.toList xs) (hb : xs.length + 1 < scanBound)
    (fin : ∀ (h' : Heap) (tk : Nat), TxSet P w h' s.heap.objs.size (once [] xs) → (∀ b o, s.heap.get? b = some o → h'.get? b = some o) → Q (.ref s.heap.objs.size) { s with heap := h', toks := tk }) :
    wpAny (model P w) A (call (.type "set") [.ref l]) Q E s := by
  have isz : items.size = xs.length := by
    have q := StrsAre.len_eq hit
    rw [Array.length_toList] at q
    exact q
  obtain ⟨c, tl, hmro⟩ := F.called_set.mro
  have hmade := F.called_set.made
  have hsub := F.called_set.sub
  refine wpAny_call (codeAny_of_tree ?_)
  show wpAny _ _ (callAny (.type "set") _) _ _ _
  refine wpAny_pure ⟨Code.quiet_builtin _ (by decide +kernel), codeAny_builtin F.entry_type_call ?_⟩
  rw [Around.under_plain (weight_type_call_type "set" [.ref l] []) rfl]
  have h1 := F.called_set.notType
  have h2 := F.called_set.canCreate
  have hct := F.typeCall_set_1 (.ref l)
  repeat (any_goals (first | assumption | wp_step))
  refine codeAny_mono (code_set_led1 (.ref l) (E := E) (Q₁ := fun obj s₁ => obj = .ref s.heap.objs.size ∧ s₁ = { s with heap := s.heap.push (txNew w) }) ⟨rfl, rfl⟩) fun r s₁ hr => ?_
  cases r with
  | error e => exact hr
  | ok fl =>
    cases fl with
    | ret obj =>
      obtain ⟨rfl, rfl⟩ := hr
      have atS : (s.heap.push (txNew w)).get? s.heap.objs.size = some (txNew w) := Heap.get?_push_size _ rfl
      have hT : Shared.TypeIs { s with heap := s.heap.push (txNew w) } (.ref s.heap.objs.size) "set" := ⟨_, atS, rfl⟩
      have hli := F.called_set.init.lookup
      have hbi := F.called_set.init.bind (.ref s.heap.objs.size)
      repeat (any_goals (first | assumption | wp_step))
      refine codeAny_mono (codeAny_call_builtin (R := wants (fun r s₂ => r = .none ∧ ∃ h' tk, s₂ = { s with heap := h', toks := tk } ∧ TxSet P w h' s.heap.objs.size (once [] xs) ∧
          (∀ b o, s.heap.get? b = some o → h'.get? b = some o)) E) F.called_set.init.plain F.entry_set_init (check_set_init_1 hT ?_)) fun r₂ s₂ hr₂ => ?_
      · obtain ⟨ol, hol, hcl, nl, hdl⟩ := hl
        obtain ⟨ocls, odict, odata, oslots⟩ := ol
        simp only at hcl hdl
        subst hcl; subst hdl
        have old : (s.heap.push (txNew w)).get? l = some { cls := .type "list", dict := odict, data := .seq items nl, slots := oslots } := Heap.get?_push_of_some _ hol
        have hsls := F.sub_list_set
        have hslf := F.sub_list_frozenset
        have hne : (Value.type "list" == Value.type "dict") = false := by decide
        have hl1 : (s.heap.push (txNew w)).IsList l items := ⟨_, old, rfl, nl, rfl⟩
        unfold Builtin.«set.__init__» noKeywords Builtin.Frozenset.updateFrom
        generalize hPI : pyIter = PI
        wp_walk
        subst hPI
        refine wpAny_pyIter_list hl1 ?_
        refine wpAny_bind (wpAny_runValue ?_)
        have lS : l < s.heap.objs.size := Heap.lt_size hol
        have hh3 : A.in1.in1.in1.handled = none := by simp [hh]
        have apart : l ≠ (s.heap.push (txNew w)).objs.size := by
          rw [Heap.size_push]; exact Nat.ne_of_lt (Nat.lt_succ_of_lt lS)
        have notfp : s.heap.objs.size ∉ [(s.heap.push (txNew w)).objs.size, l] := by
          rw [Heap.size_push]; simp only [List.mem_cons, List.mem_singleton, List.not_mem_nil, or_false, not_or]
          exact ⟨Nat.ne_of_lt (Nat.lt_succ_self _), Nat.ne_of_gt lS⟩
        have hval : ∀ (i : Nat) (v : Value), items[i]? = some v → ∃ x t, xs[i]? = some x ∧ v = .str x t := fun i v hv => txs_at hit i v (by rw [Array.getElem?_toList]; exact hv)
        have at0 : ((s.heap.push (txNew w)).push { cls := .type "list_iterator", data := .fields #[.ref l, .int 0 0] }).get? s.heap.objs.size = some (txNew w) := Heap.get?_push_of_some _ atS
        refine tx_loop ((Walks.list hh3 _ l apart items).toS) s.heap.objs.size notfp xs isz hval (items.size - 0) 0 [] _ (by omega) (Nat.zero_le _)
          ⟨⟨_, Heap.get?_push_size _ rfl, rfl, rfl⟩, (hl1.push _)⟩ (txNew_at at0) (by rw [isz]; simpa using hb) fun s' hm hS => ?_
        obtain ⟨h', g2, d', tk', os'⟩ := s'
        have eg : g2 = s.gens := hm.gens
        have ed : d' = s.drawn := hm.drawn
        have eo : os' = s.os := hm.os
        subst eg; subst ed; subst eo
        show wpAny _ _ _ _ _ _
        refine wpAny_pure ?_
        show wpAny _ _ (ret Value.none) _ _ _
        refine wpAny_pure ⟨rfl, h', tk', rfl, hS, fun b o e => ?_⟩
        have b0 : b < s.heap.objs.size := Heap.lt_size e
        have b1 : b ≠ s.heap.objs.size := Nat.ne_of_lt b0
        have b2 : b ≠ (s.heap.push (txNew w)).objs.size := by
          rw [Heap.size_push]; exact Nat.ne_of_lt (Nat.lt_succ_of_lt b0)
        exact hm.heap b o (by simp only [List.mem_cons, List.mem_singleton, List.not_mem_nil, or_false, not_or]; exact ⟨b1, b2⟩) (Heap.get?_push_of_some _ (Heap.get?_push_of_some _ e))
      · cases r₂ with
        | error e => exact hr₂
        | ok fl₂ =>
          cases fl₂ with
          | ret r =>
            obtain ⟨rfl, h', tk, rfl, hS, kp⟩ := hr₂
            repeat (any_goals (first | assumption | wp_step))
            exact fin _ _ hS kp
          | _ => exact hr₂.elim
    | _ => exact hr.elim

theorem txs_of : ∀ (l : List Value), (∀ v ∈ l, ∃ tk, v = Value.str (tagOf v) tk) → StrsAre l (l.map tagOf)
  | [], _ => .nil
  | v :: l, h => by
    obtain ⟨tk, e⟩ := h v List.mem_cons_self
    rw [List.map_cons]
    generalize tagOf v = x at e ⊢
    subst e
    exact .cons x tk (txs_of l fun u hu => h u (List.mem_cons_of_mem _ hu))

/-- sorted(a set of texts) -/
theorem tx_sorted {a : Addr} {l : List Str} {Q : Value → Shared → Prop} (R : TxSet P w s.heap a l) (hh : A.handled = none) (h64 : l.length < 64)
    (fin : ∀ s' p (out : Array Value) (c : Nat) (ys : List Str), (∀ b o, s.heap.get? b = some o → s'.heap.get? b = some o) → s'.gens = s.gens → s'.os = s.os → s.heap.objs.size ≤ p →
      s'.heap.get? p = some (seqObj "list" out c) → StrsAre out.toList ys → ys.Perm l → sortedS ys = true → Q (.ref p) s') :
    wpAny (model P w) A (call (.builtin "sorted") [.ref a]) Q E s := by
  obtain ⟨o, es, ep, t, ho, hex, hd, g, hp, nd, hb, hf, hr, hl⟩ := R
  refine Calls.call_function_entry kind_sorted plain_sorted entry_sorted (args_sorted1 _) ?_
  unfold Builtin.«sorted»
  refine wpAny_bind (m := checkCount "sorted" 1 1 _) (wpAny_pure ?_)
  refine wpAny_bind (collect_set (A := A.in1) hh ⟨o, ho, hex.1, hd⟩ hf hb hr hl fun s1 vs k1 hz g1 o1 pm => ?_)
  have hS : StrsAre vs (vs.map tagOf) := txs_of vs fun v hv => by
    obtain ⟨e, he, q⟩ := List.mem_map.mp (pm.mem_iff.mp hv)
    obtain ⟨tk, h1, _⟩ := g e he
    rw [← q]
    exact ⟨tk, h1⟩
  have pk : (vs.map tagOf).Perm l := by
    have q := pm.map tagOf
    rw [List.map_map] at q
    exact q.trans hp
  have hvl : vs.length = l.length := by rw [← pk.length_eq, List.length_map]
  refine wpAny_bind (wpAny_newList ?_ (by rw [hvl, sizeLine_eq]; omega))
  have hoL : (s1.heap.push (seqObj "list" vs.toArray 0)).get? s1.heap.objs.size = some (seqObj "list" vs.toArray 0) := Heap.get?_push_size _ rfl
  refine wpAny_bind (wpAny_holding (wpAny_call_entry slot_list_sort ⟨_, hoL, rfl⟩ entry_list_sort
    (list_sort_treeK strKind_oneLt hoL hS.keysOf (fun v₁ v₂ rest e => keyKind_strs (by rw [← e]; exact hS)) (by rw [hvl]; exact h64) fun st' a1 a2 => ⟨_, rfl, ?_⟩) (args_list_sort _)))
  obtain ⟨ys, b1, b2, b3⟩ := sorted_out_str hS a1 a2
  obtain ⟨c, hc⟩ := sortedHeap_at (vs := vs) (out := (arrOf st').map (·.2)) hoL
  refine wpAny_pure ⟨_, rfl, fin _ s1.heap.objs.size _ c ys (fun b u e => ?_) g1 o1 hz hc b1 (b2.trans pk) b3⟩
  have q := k1 b u e
  have hlt := Heap.lt_size q
  show (sortedHeap (s1.heap.push (seqObj "list" vs.toArray 0)) s1.heap.objs.size vs _).get? b = some u
  rw [sortedHeap_old (Nat.ne_of_lt hlt) (by rw [size_push']; exact Nat.lt_succ_of_lt hlt)]
  exact Heap.get?_push_of_some _ q
end

end L2
namespace L2
open PySem PySem.Spec PyProof.Rows
/-! over the abstract heap -/
def SetS (P : Program) (w : World) (a : Addr) (l : List Str) : HO := .ext fun h => TxSet P w h a l
section
variable {X : Cx}
def rSetS (X : Cx) : List V → Hp → VK → Prop := fun vs H Q => ∃ (a : Addr) (xs : List Str), vs = [V.ref a] ∧ (SqL X.K H a (xs.map V.str) ∨ SqT X.K H a (xs.map V.str)) ∧ xs.length + 1 < scanBound ∧
  ∀ p, H p = none → Q (.ref p) (upd H p (SetS X.prog X.w p (once [] xs)))
theorem cr_setS (hc : X.calm = true) : CallR X (.type "set") (rSetS X) := by
  intro pins s σ H vs us Q I r h
  obtain ⟨a, xs, rfl, hs, hb, q⟩ := h
  rw [Vals.ref1 r]
  have key : ∀ (h' : Heap) (tk : Nat), TxSet X.prog X.w h' s.heap.objs.size (once [] xs) → (∀ b o, s.heap.get? b = some o → h'.get? b = some o) →
      EP X pins σ Q (.ref s.heap.objs.size) { s with heap := h', toks := tk } := fun h' tk R k => by
    have hn : H s.heap.objs.size = none := I.hok.fresh (Nat.le_refl _)
    refine ⟨.ref _, _, I.laid (t' := tk) k (Nat.le_refl _) ?_, rfl, q _ hn⟩
    refine ⟨R, ?_, fun h1 h2 z kk => z.stay kk⟩
    obtain ⟨o, _, _, _, ho, _⟩ := R
    exact ⟨o, ho⟩
  rcases hs with hs | hs
  · obtain ⟨its, rv, hl, _⟩ := I.list hs
    exact tx_call_list xs (I.ok.hd hc) hl.isList rv.strs hb key
  · obtain ⟨its, rv, hl, _⟩ := I.tuple hs
    exact tx_call_tuple xs (I.ok.hd hc) (show s.heap.IsTuple a its.toArray from hl) rv.strs hb key
def rSortedSetS (X : Cx) : List V → Hp → VK → Prop := fun vs H Q => ∃ (a : Addr) (l : List Str), vs = [V.ref a] ∧ H a = some (SetS X.prog X.w a l) ∧ l.length < 64 ∧
  ∀ (ys : List Str) (p : Addr), ys.Perm l → sortedS ys = true → H p = none → Q (.ref p) (upd H p (.lst (ys.map V.str)))
theorem cr_sortedSetS (hc : X.calm = true) : CallR X (.builtin "sorted") (rSortedSetS X) := by
  intro pins s σ H vs us Q I r h
  obtain ⟨a, l, rfl, ha, h64, q⟩ := h
  have R : TxSet X.prog X.w s.heap a l := (I.hok a _ ha).1
  rw [Vals.ref1 r]
  refine tx_sorted R (I.ok.hd hc) h64 fun s' p out c ys k g o hp hg hi hs hm => ?_
  have hlen : (ys.map V.str).length ≤ sizeLine := by rw [List.length_map, hs.length_eq, sizeLine_eq]; omega
  have hn : H p = none := I.hok.fresh hp
  have J : Inv X pins σ (upd H p (.lst (ys.map V.str))) { s with heap := s'.heap, gens := s'.gens, drawn := s'.drawn, toks := s'.toks } :=
    I.call (ch := []) (Un.laid k hp hn) (I.hok.laid k hp ⟨hlen, out.toList, c, vals_of_strs hi, hg⟩) (by rw [g]; exact I.bare) (fun _ z => nomatch z)
  have e : s' = { s with heap := s'.heap, gens := s'.gens, drawn := s'.drawn, toks := s'.toks } := by
    cases s'
    cases s
    cases o
    rfl
  rw [e]
  exact ⟨.ref p, _, J, rfl, q ys p hs hm hn⟩
end
end L2
/-! what all the laws' proofs share: the list that draws, data, names -/
namespace L2
open PySem PySem.Spec PyProof.Rows
section
variable {X : Cx} {CX : CXT} {k : Nat} {f : Addr} {fd : FuncData} {ps ks : List Str} {sp : Sp} {E : XK} {x : Str} {p pos : Pos} {kws : List Keyword} {tk : TA} {g : List Value → List Value → List Value} {gV : List V → List V → List V}
/-- f(k = v, ..), no argument by place -/
theorem pe_callK0 (F : FnOk X.prog X.w X.K X.mg X.base CX k f fd ps sp) (hr : Room k X.A) (hg : Gl X x) (hm : X.mg x = some (.ref f)) (hk : PySem.W.keepIn X.K (.ref f) = true) (hb : KBinds X.K fd ps ks g gV) (hx : Passes CX X E)
    (hkw : PK X kws tk) (hall : (backToKw pos (keywordEach kws X.env)).all (·.1.isSome) = true := by rfl) (hks : (backToKw pos (keywordEach kws X.env)).filterMap (·.1) = ks := by rfl)
    (hdb : (x == ("__debug__" : Str)) = false := by decide) (hpl : ((backTo pos (starEach [] X.env)).any (·.1) || (backToKw pos (keywordEach kws X.env)).any (·.1.isNone)) = false := by rfl) :
    PE X (.Call (.Name x p) [] kws pos) (tCallK sp gV E tNil tk) := by
  refine ⟨fun pins s σ H Q I h => ?_⟩
  refine wpAny_Call_Name_kw (ld_glob I hg hm ?_ hdb)
  refine PySem.W.callWith_KW0 (h₀ := X.base) I.ok.mod.kin hk hall ?_ hpl
  refine thn (hkw.run pos pins s σ H _ I h) fun ws s2 ⟨zs, H2, I2, rz, q2⟩ => ⟨I2.kIn, ?_⟩
  rw [hks]
  exact run_fnk (us := []) (vs := []) F hr hb hx I2 .nil rz q2
end
end L2

namespace Th
open PySem PySem.Spec PyProof.Rows L2

/-! ### heaps: what stands, but for one list -/
def hid (p : Addr) (H : Hp) : Hp := fun a => if a = p then none else H a
theorem hid_ne {p a : Addr} {H : Hp} (h : a ≠ p) : hid p H a = H a := if_neg h
theorem hid_self {p : Addr} {H : Hp} : hid p H p = none := if_pos rfl
theorem hid_some {p a : Addr} {H : Hp} {o : HO} (h : hid p H a = some o) : a ≠ p ∧ H a = some o := by
  by_cases e : a = p
  · subst e
    rw [hid_self] at h
    cases h
  · rw [hid_ne e] at h
    exact ⟨e, h⟩
theorem hid_same {p : Addr} {H : Hp} : Same (hid p H) H := fun a o h => (hid_some h).2
theorem same_new {H : Hp} {p : Addr} {o : HO} (h : H p = none) : Same H (upd H p o) := fun b x e => by
  rw [upd_ne (ne_of_none e h)]
  exact e
theorem same_mut {H H' : Hp} {q : Addr} {o : HO} (e : Same H H') (h : H q = none) : Same H (upd H' q o) := fun a u ha => by
  rw [upd_ne (ne_of_none ha h)]
  exact e a u ha

/-- the list that draws: where it stands, where its script stands, the script -/
structure DS where
  p : Addr
  l : Addr
  ns : List Int
structure Drw (D : DS) (H : Hp) : Prop where
  ne : D.l ≠ D.p
  sc : H D.l = some (.lst (D.ns.map V.int))
  few : D.ns.length ≤ 63
  st : ∃ i v m c : Int, H D.p = some (.lst [.ref D.l, .int i, .int v, .int m, .int c]) ∧ 0 ≤ i ∧ 0 ≤ v ∧ 0 ≤ m ∧ m < 2147483648 ∧ 0 ≤ c
theorem Drw.new {D : DS} {H : Hp} {q : Addr} {o : HO} (d : Drw D H) (h : H q = none) : Drw D (upd H q o) := by
  obtain ⟨ne, sc, few, i, v, m, c, st, r⟩ := d
  exact ⟨ne, by rw [upd_ne (ne_of_none sc h)]; exact sc, few, i, v, m, c, by rw [upd_ne (ne_of_none st h)]; exact st, r⟩
theorem Drw.at {D : DS} {H : Hp} (d : Drw D H) : ∃ o, H D.p = some o := by
  obtain ⟨_, _, _, i, v, m, c, st, _⟩ := d
  exact ⟨_, st⟩
structure Go (D : DS) (H H' : Hp) : Prop where
  sm : Same (hid D.p H) (hid D.p H')
  st : Drw D H'
theorem Go.refl {D : DS} {H : Hp} (d : Drw D H) : Go D H H := ⟨Same.refl _, d⟩
theorem Go.trans {D : DS} {H H1 H2 : Hp} (a : Go D H H1) (b : Go D H1 H2) : Go D H H2 := ⟨a.sm.trans b.sm, b.st⟩
theorem Go.of {D : DS} {H H' : Hp} (d : Drw D H) (s : Same H H') : Go D H H' := by
  refine ⟨fun a o h => ?_, ?_⟩
  · obtain ⟨e, h⟩ := hid_some h
    rw [hid_ne e]
    exact s a o h
  · obtain ⟨ne, sc, few, i, v, m, c, st, r⟩ := d
    exact ⟨ne, s _ _ sc, few, i, v, m, c, s _ _ st, r⟩
theorem Go.new {D : DS} {H H' : Hp} {q : Addr} {o : HO} (g : Go D H H') (h : H' q = none) : Go D H (upd H' q o) := g.trans (.of g.st (same_new h))
/-- a thing that did not stand ahead may change -/
theorem Go.mut {D : DS} {H H' : Hp} {q : Addr} {o : HO} (g : Go D H H') (d : Drw D H) (h : H q = none) : Go D H (upd H' q o) := by
  have np : q ≠ D.p := fun e => by
    obtain ⟨u, hu⟩ := d.at
    rw [← e, h] at hu
    cases hu
  refine ⟨fun a u ha => ?_, ?_⟩
  · obtain ⟨e, ha'⟩ := hid_some ha
    have q1 := g.sm a u ha
    rw [hid_ne e] at q1 ⊢
    rw [upd_ne (ne_of_none ha' h)]
    exact q1
  · obtain ⟨ne, sc, few, i, v, m, c, st, r⟩ := g.st
    exact ⟨ne, by rw [upd_ne (ne_of_none d.sc h)]; exact sc, few, i, v, m, c, by rw [upd_ne np.symm]; exact st, r⟩
theorem Go.free {D : DS} {H H' : Hp} {q : Addr} (g : Go D H H') (d : Drw D H) (h : H' q = none) : H q = none := by
  cases e : H q with
  | none => rfl
  | some o =>
    by_cases z : q = D.p
    · obtain ⟨u, hu⟩ := g.st.at
      rw [← z, h] at hu
      cases hu
    · have q1 := g.sm q o (by rw [hid_ne z]; exact e)
      rw [hid_ne z, h] at q1
      cases q1
theorem Go.old {D : DS} {H H' : Hp} {q : Addr} {o : HO} (g : Go D H H') (z : q ≠ D.p) (h : H q = some o) : H' q = some o := by
  have q1 := g.sm q o (by rw [hid_ne z]; exact h)
  rw [hid_ne z] at q1
  exact q1
theorem Drw.ne_new {D : DS} {H : Hp} {q : Addr} (d : Drw D H) (h : H q = none) : q ≠ D.p := fun e => by
  obtain ⟨u, hu⟩ := d.at
  rw [← e, h] at hu
  cases hu

/-! ### data -/
mutual
inductive Da (K : PySem.W.Frag) (H : Hp) : V → PyData → Prop
  | non : Da K H .non .none
  | bl (b : Bool) : Da K H (.bl b) (.bool b)
  | int (i : Int) : Da K H (.int i) (.int i)
  | str (x : Str) : Da K H (.str x) (.str x)
  | lst {a : Addr} {xs : List V} {ds : List PyData} : SqL K H a xs → TyX K H (.ref a) (.type "list") → DaAll K H xs ds → Da K H (.ref a) (.list ds)
  | tup {a : Addr} {xs : List V} {ds : List PyData} : SqT K H a xs → TyX K H (.ref a) (.type "tuple") → DaAll K H xs ds → Da K H (.ref a) (.tuple ds)
inductive DaAll (K : PySem.W.Frag) (H : Hp) : List V → List PyData → Prop
  | nil : DaAll K H [] []
  | cons {v : V} {vs : List V} {d : PyData} {ds : List PyData} : Da K H v d → DaAll K H vs ds → DaAll K H (v :: vs) (d :: ds)
end
theorem same_rd {H H' : Hp} {a : Addr} {u : HO} (e : Same H H') (h : Rd H a u) : Rd H' a u := by
  rcases h with h | ⟨o, h⟩
  · exact .inl (e a _ h)
  · exact .inr ⟨o, e a _ h⟩
theorem same_t {K : PySem.W.Frag} {H H' : Hp} {a : Addr} {xs : List V} (e : Same H H') (h : SqT K H a xs) : SqT K H' a xs := by
  rcases h with h | h
  · exact .inl (same_rd e h)
  · exact .inr h
theorem ty_same {K : PySem.W.Frag} {H H' : Hp} {v : V} {t : Value} (e : Same H H') (h : TyX K H v t) : TyX K H' v t := by
  cases h with
  | base b =>
    refine .base ?_
    cases b with
    | non => exact .non
    | bl x => exact .bl x
    | int i => exact .int i
    | str x => exact .str x
    | flt x => exact .flt x
    | lst h => exact .lst (e _ _ h)
    | frz h => exact .frz (e _ _ h)
    | tup h => exact .tup (e _ _ h)
    | dK h => exact .dK (e _ _ h)
    | dT h => exact .dT (e _ _ h)
    | ins h cl ha hn htk hm => exact .ins (e _ _ h) cl ha hn htk hm
  | byt b => exact .byt b
  | set h => exact .set (e _ _ h)
  | kList h c => exact .kList h c
  | kTuple h c => exact .kTuple h c
  | kDict h c => exact .kDict h c
  | fTuple h => exact .fTuple (e _ _ h)
  | fDict h => exact .fDict (e _ _ h)
section
variable {K : PySem.W.Frag} {H H' : Hp}
mutual
theorem Da.mono (e : Same H H') : ∀ (d : PyData) (v : V), Da K H v d → Da K H' v d
  | .none, _, h => by
    cases h
    exact .non
  | .bool b, _, h => by
    cases h
    exact .bl b
  | .int i, _, h => by
    cases h
    exact .int i
  | .str x, _, h => by
    cases h
    exact .str x
  | .list ds, _, h => by
    cases h with
    | lst hs ht ha => exact .lst (e.seq hs) (ty_same e ht) (DaAll.mono e ds _ ha)
  | .tuple ds, _, h => by
    cases h with
    | tup hs ht ha => exact .tup (same_t e hs) (ty_same e ht) (DaAll.mono e ds _ ha)
  | .dict _, _, h => by cases h
theorem DaAll.mono (e : Same H H') : ∀ (ds : List PyData) (vs : List V), DaAll K H vs ds → DaAll K H' vs ds
  | [], _, h => by
    cases h
    exact .nil
  | d :: ds, _, h => by
    cases h with
    | cons h1 h2 => exact .cons (Da.mono e d _ h1) (DaAll.mono e ds _ h2)
end
mutual
theorem Da.dp : ∀ (d : PyData) (v : V), Da K H v d → Dp K H v d
  | .none, _, h => by
    cases h
    exact .non
  | .bool b, _, h => by
    cases h
    exact .bl b
  | .int i, _, h => by
    cases h
    exact .int i
  | .str x, _, h => by
    cases h
    exact .str x
  | .list ds, _, h => by
    cases h with
    | lst hs ht ha => exact .lst hs (DaAll.dp ds _ ha)
  | .tuple ds, _, h => by
    cases h with
    | tup hs ht ha => exact .tup hs (DaAll.dp ds _ ha)
  | .dict _, _, h => by cases h
theorem DaAll.dp : ∀ (ds : List PyData) (vs : List V), DaAll K H vs ds → DpAll K H vs ds
  | [], _, h => by
    cases h
    exact .nil
  | d :: ds, _, h => by
    cases h with
    | cons h1 h2 => exact .cons (Da.dp d _ h1) (DaAll.dp ds _ h2)
end
theorem Da.to (h : Da K H v d) (e : Same H H') : Da K H' v d := Da.mono e d v h
theorem DaAll.to (h : DaAll K H vs ds) (e : Same H H') : DaAll K H' vs ds := DaAll.mono e ds vs h
theorem DaAll.len : ∀ {vs : List V} {ds : List PyData}, DaAll K H vs ds → vs.length = ds.length
  | _, _, .nil => rfl
  | _, _, .cons _ r => congrArg Nat.succ r.len
theorem DaAll.at : ∀ {vs : List V} {ds : List PyData} {i : Nat} {v : V}, DaAll K H vs ds → vs[i]? = some v → ∃ d, ds[i]? = some d ∧ Da K H v d
  | _, _, _, _, .nil, h => by simp at h
  | _, _, 0, v, .cons h _, e => ⟨_, rfl, by simp at e; rw [← e]; exact h⟩
  | _, _, i + 1, v, .cons _ r, e => by
    simp only [List.getElem?_cons_succ] at e
    obtain ⟨d, h1, h2⟩ := r.at e
    exact ⟨d, by simpa using h1, h2⟩
theorem DaAll.at' {vs : List V} {ds : List PyData} {i : Nat} {d : PyData} (h : DaAll K H vs ds) (e : ds[i]? = some d) : ∃ v, vs[i]? = some v ∧ Da K H v d := by
  obtain ⟨hi, _⟩ := List.getElem?_eq_some_iff.mp e
  have hv : i < vs.length := by rw [h.len]; exact hi
  obtain ⟨d', e', q⟩ := h.at (List.getElem?_eq_getElem hv)
  rw [e] at e'
  cases e'
  exact ⟨_, List.getElem?_eq_getElem hv, q⟩
theorem DaAll.app : ∀ {vs ws : List V} {ds es : List PyData}, DaAll K H vs ds → DaAll K H ws es → DaAll K H (vs ++ ws) (ds ++ es)
  | _, _, _, _, .nil, r => r
  | _, _, _, _, .cons h t, r => .cons h (t.app r)
theorem DaAll.take : ∀ {vs : List V} {ds : List PyData} (n : Nat), DaAll K H vs ds → DaAll K H (vs.take n) (ds.take n)
  | _, _, 0, _ => .nil
  | _, _, n + 1, .nil => .nil
  | _, _, n + 1, .cons h t => .cons h (t.take n)
theorem DaAll.drop : ∀ {vs : List V} {ds : List PyData} (n : Nat), DaAll K H vs ds → DaAll K H (vs.drop n) (ds.drop n)
  | _, _, 0, h => h
  | _, _, n + 1, .nil => .nil
  | _, _, n + 1, .cons h t => t.drop n
theorem DaAll.strs : ∀ xs : List Str, DaAll K H (xs.map V.str) (xs.map PyData.str)
  | [] => .nil
  | x :: r => .cons (.str x) (DaAll.strs r)
theorem DaAll.bls : ∀ xs : List Bool, DaAll K H (xs.map V.bl) (xs.map PyData.bool)
  | [] => .nil
  | x :: r => .cons (.bl x) (DaAll.bls r)
/-- a value of data that is all texts: the texts -/
theorem DaAll.isStrs : ∀ {vs : List V} {xs : List Str}, DaAll K H vs (xs.map PyData.str) → vs = xs.map V.str
  | _, [], h => by
    cases h
    rfl
  | _, x :: r, h => by
    cases h with
    | cons h1 h2 =>
      cases h1
      rw [h2.isStrs]
      rfl
theorem Da.newT {H : Hp} {q : Addr} {xs : List V} {ds : List PyData} (h : H q = some (.tup xs)) (r : DaAll K H xs ds) : Da K H (.ref q) (.tuple ds) := .tup (.inl (.inl h)) (.base (.tup h)) r
theorem Da.newL {H : Hp} {q : Addr} {xs : List V} {ds : List PyData} (h : H q = some (.lst xs)) (r : DaAll K H xs ds) : Da K H (.ref q) (.list ds) := .lst (.inl (.inl h)) (.base (.lst h)) r
end
/-- the class of a datum -/
def tyD : PyData → String
  | .none => "NoneType" | .bool _ => "bool" | .int _ => "int" | .str _ => "str" | .list _ => "list" | .tuple _ => "tuple" | .dict _ => "dict"
theorem Da.ty {K : PySem.W.Frag} {H : Hp} {v : V} {d : PyData} (h : Da K H v d) : TyX K H v (.type (tyD d)) := by
  cases h with
  | non => exact .base .non
  | bl b => exact .base (.bl b)
  | int i => exact .base (.int i)
  | str x => exact .base (.str x)
  | lst _ t _ => exact t
  | tup _ t _ => exact t
theorem kit_str (d : PyData) (h : tyD d ≠ "dict") : kitB (tyD d) "str" = some (decide (tyD d = "str")) := by
  cases d with
  | none => exact (by decide +kernel : kitB "NoneType" "str" = some (decide ("NoneType" = "str")))
  | bool b => exact (by decide +kernel : kitB "bool" "str" = some (decide ("bool" = "str")))
  | int i => exact (by decide +kernel : kitB "int" "str" = some (decide ("int" = "str")))
  | str x => exact (by decide +kernel : kitB "str" "str" = some (decide ("str" = "str")))
  | list xs => exact (by decide +kernel : kitB "list" "str" = some (decide ("list" = "str")))
  | tuple xs => exact (by decide +kernel : kitB "tuple" "str" = some (decide ("tuple" = "str")))
  | dict kvs => exact absurd rfl h
theorem kit_int (d : PyData) (h : tyD d ≠ "dict") : kitB (tyD d) "int" = some (decide (tyD d = "int" ∨ tyD d = "bool")) := by
  cases d with
  | none => exact (by decide +kernel : kitB "NoneType" "int" = some (decide ("NoneType" = "int" ∨ "NoneType" = "bool")))
  | bool b => exact (by decide +kernel : kitB "bool" "int" = some (decide ("bool" = "int" ∨ "bool" = "bool")))
  | int i => exact (by decide +kernel : kitB "int" "int" = some (decide ("int" = "int" ∨ "int" = "bool")))
  | str x => exact (by decide +kernel : kitB "str" "int" = some (decide ("str" = "int" ∨ "str" = "bool")))
  | list xs => exact (by decide +kernel : kitB "list" "int" = some (decide ("list" = "int" ∨ "list" = "bool")))
  | tuple xs => exact (by decide +kernel : kitB "tuple" "int" = some (decide ("tuple" = "int" ∨ "tuple" = "bool")))
  | dict kvs => exact absurd rfl h
theorem kit_bool (d : PyData) (h : tyD d ≠ "dict") : kitB (tyD d) "bool" = some (decide (tyD d = "bool")) := by
  cases d with
  | none => exact (by decide +kernel : kitB "NoneType" "bool" = some (decide ("NoneType" = "bool")))
  | bool b => exact (by decide +kernel : kitB "bool" "bool" = some (decide ("bool" = "bool")))
  | int i => exact (by decide +kernel : kitB "int" "bool" = some (decide ("int" = "bool")))
  | str x => exact (by decide +kernel : kitB "str" "bool" = some (decide ("str" = "bool")))
  | list xs => exact (by decide +kernel : kitB "list" "bool" = some (decide ("list" = "bool")))
  | tuple xs => exact (by decide +kernel : kitB "tuple" "bool" = some (decide ("tuple" = "bool")))
  | dict kvs => exact absurd rfl h
theorem kit_list (d : PyData) (h : tyD d ≠ "dict") : kitB (tyD d) "list" = some (decide (tyD d = "list")) := by
  cases d with
  | none => exact (by decide +kernel : kitB "NoneType" "list" = some (decide ("NoneType" = "list")))
  | bool b => exact (by decide +kernel : kitB "bool" "list" = some (decide ("bool" = "list")))
  | int i => exact (by decide +kernel : kitB "int" "list" = some (decide ("int" = "list")))
  | str x => exact (by decide +kernel : kitB "str" "list" = some (decide ("str" = "list")))
  | list xs => exact (by decide +kernel : kitB "list" "list" = some (decide ("list" = "list")))
  | tuple xs => exact (by decide +kernel : kitB "tuple" "list" = some (decide ("tuple" = "list")))
  | dict kvs => exact absurd rfl h
theorem kit_tuple (d : PyData) (h : tyD d ≠ "dict") : kitB (tyD d) "tuple" = some (decide (tyD d = "tuple")) := by
  cases d with
  | none => exact (by decide +kernel : kitB "NoneType" "tuple" = some (decide ("NoneType" = "tuple")))
  | bool b => exact (by decide +kernel : kitB "bool" "tuple" = some (decide ("bool" = "tuple")))
  | int i => exact (by decide +kernel : kitB "int" "tuple" = some (decide ("int" = "tuple")))
  | str x => exact (by decide +kernel : kitB "str" "tuple" = some (decide ("str" = "tuple")))
  | list xs => exact (by decide +kernel : kitB "list" "tuple" = some (decide ("list" = "tuple")))
  | tuple xs => exact (by decide +kernel : kitB "tuple" "tuple" = some (decide ("tuple" = "tuple")))
  | dict kvs => exact absurd rfl h
theorem Da.nodict {K : PySem.W.Frag} {H : Hp} {v : V} {d : PyData} (h : Da K H v d) : tyD d ≠ "dict" := by
  cases h with
  | non => exact (by decide : ("NoneType" : String) ≠ "dict")
  | bl b => exact (by decide : ("bool" : String) ≠ "dict")
  | int i => exact (by decide : ("int" : String) ≠ "dict")
  | str x => exact (by decide : ("str" : String) ≠ "dict")
  | lst _ _ _ => exact (by decide : ("list" : String) ≠ "dict")
  | tup _ _ _ => exact (by decide : ("tuple" : String) ≠ "dict")
end Th
namespace Th
open PySem PySem.Spec PyProof.Rows L2
/-! ### a def that stands at a name of the text and keeps a promise -/
/-- the built-in names are still the built-ins -/
structure Zs (mg : Str → Option Value) : Prop where
  len_ : mg "len" = none
  range_ : mg "range" = none
  int_ : mg "int" = none
  abs_ : mg "abs" = none
  isinstance_ : mg "isinstance" = none
  all_ : mg "all" = none
  any_ : mg "any" = none
  sorted_ : mg "sorted" = none
  set_ : mg "set" = none
  list_ : mg "list" = none
  tuple_ : mg "tuple" = none
  str_ : mg "str" = none
  bool_ : mg "bool" = none
  enumerate_ : mg "enumerate" = none
  min_ : mg "min" = none
  max_ : mg "max" = none
def At (K : PySem.W.Frag) (mg : Str → Option Value) (x : Str) (st : Stmt) (ps : List Str) : Prop :=
  ∃ (f : Addr) (fd : FuncData), Fun K x x st f fd ∧ mg x = some (.ref f) ∧ Binds K fd ps []
def Has (P : Program) (w : World) (K : PySem.W.Frag) (mg : Str → Option Value) (base : Heap) (x : Str) (st : Stmt) (k : Nat) (ps : List Str) (sp : Sp) : Prop :=
  ∃ (f : Addr) (fd : FuncData), FnOk P w K mg base CX0 k f fd ps sp ∧ mg x = some (.ref f) ∧ PySem.W.keepIn K (.ref f) = true ∧ Binds K fd ps [] ∧ Fun K x x st f fd
theorem kb_of {K : PySem.W.Frag} {x qual : Str} {st : Stmt} {f : Addr} {fd : FuncData} {ps ks : List Str} {g : List Value → List Value → List Value} {gV : List V → List V → List V} (F : Fun K x qual st f fd)
    (hrel : ∀ {vs : List V} {us : List Value} {zs : List V} {ws : List Value}, Vals vs us → Vals zs ws → Vals (gV vs zs) (g us ws))
    (h : ∀ (kV doc pm : Value) (an : Option Addr) (cdv ct : Value) (us ws : List Value), (g us ws).length = ps.length → bindArgs (PySem.W.fnOf x qual (defArgs st) (defBody st) (defScope st) .none kV doc pm an cdv ct) ⟨us, ks.zip ws⟩ = pure (ps.zip (g us ws))) :
    KBinds K fd ps ks g gV := by
  obtain ⟨oc, od, kV, doc, pm, an, cdv, ct, osl, rfl, lk, hcd⟩ := F.ex
  exact ⟨fun s us ws X hl => .of_eq (h kV doc pm an cdv ct us ws hl), fun r1 r2 => hrel r1 r2⟩
/-- one argument, by its name -/
def g1 {α : Type} : List α → List α → List α
  | [], [a] => [a]
  | _, _ => []
theorem g1_rel {vs : List V} {us : List Value} {zs : List V} {ws : List Value} (r1 : Vals vs us) (r2 : Vals zs ws) : Vals (g1 vs zs) (g1 us ws) := by
  cases r1 with
  | nil =>
    cases r2 with
    | nil => exact .nil
    | cons r r2 =>
      cases r2 with
      | nil => exact .cons r .nil
      | cons _ _ => exact .nil
  | cons _ _ =>
    cases r2 <;> exact .nil
/-- two arguments by their names, in the other order -/
def g2 {α : Type} : List α → List α → List α
  | [], [a, b] => [b, a]
  | _, _ => []
theorem g2_rel {vs : List V} {us : List Value} {zs : List V} {ws : List Value} (r1 : Vals vs us) (r2 : Vals zs ws) : Vals (g2 vs zs) (g2 us ws) := by
  cases r1 with
  | nil =>
    cases r2 with
    | nil => exact .nil
    | cons r r2 =>
      cases r2 with
      | nil => exact .nil
      | cons q r3 =>
        cases r3 with
        | nil => exact .cons q (.cons r .nil)
        | cons _ _ => exact .nil
  | cons _ _ =>
    cases r2 <;> exact .nil

/-! ### small facts of lists -/
theorem cut_none (xs : List V) (h : xs.length ≤ 63) : cutV xs none (some 63) = xs := by
  unfold cutV
  rw [HT.sIx_none, show HT.sIx xs.length xs.length (some 63) = min 63 xs.length from HT.sIx_nat xs.length xs.length 63]
  show List.take (min 63 xs.length - 0) (List.drop 0 xs) = xs
  rw [List.drop_zero, Nat.sub_zero, Nat.min_eq_right h, List.take_length]
theorem getmap {α β : Type} {f : α → β} {l : List α} {i : Nat} {y : β} (h : (l.map f)[i]? = some y) : ∃ x, l[i]? = some x ∧ f x = y := by
  rw [List.getElem?_map] at h
  cases e : l[i]? with
  | none =>
    rw [e] at h
    cases h
  | some x =>
    rw [e] at h
    exact ⟨x, rfl, Option.some.inj h⟩
theorem lt_of_get {α : Type} {l : List α} {i : Nat} {y : α} (h : l[i]? = some y) : i < l.length := (List.getElem?_eq_some_iff.mp h).1
theorem sline {n : Nat} (h : n ≤ 100000) : n ≤ sizeLine := Nat.le_trans h (by decide)
theorem slineL {n : Nat} (h : n < 100000) : n < sizeLine := Nat.lt_of_lt_of_le h (by decide)
theorem take_succ_map {α β : Type} {f : α → β} {l : List α} {i : Nat} {x : α} (h : l[i]? = some x) : ((l.take (i + 1)).map f) = (l.take i).map f ++ [f x] := by
  rw [List.take_add_one, h, List.map_append]
  rfl
theorem atI_of {xs : List V} {i : Int} {v : V} (h0 : 0 ≤ i) (h : xs[i.toNat]? = some v) : atI xs i = some v := by
  have e : i = ((i.toNat : Nat) : Int) := by omega
  rw [e]
  exact atI_nat h
end Th
namespace Th
def sgE (a b k : Nat) : Nat := (a + b * k % 26) % 26 + 26 * (k / 26)
theorem sgE_nodup : ∀ a, a < 26 → ∀ b ∈ [1, 3, 5, 7, 9, 11, 25], ((List.range 40).map (sgE a b)).Nodup := by decide +kernel
end Th
/-! texts and names -/
namespace Th
open PySem PySem.Spec PyProof.Rows L2
theorem nodup_at {α : Type} {l : List α} (h : l.Nodup) {i j : Nat} {x : α} (hi : l[i]? = some x) (hj : l[j]? = some x) : i = j := by
  obtain ⟨li, ei⟩ := List.getElem?_eq_some_iff.mp hi
  obtain ⟨lj, ej⟩ := List.getElem?_eq_some_iff.mp hj
  have q := List.pairwise_iff_getElem.mp h
  rcases Nat.lt_trichotomy i j with z | z | z
  · exact absurd (ei.trans ej.symm) (q i j li lj z)
  · exact z
  · exact absurd (ej.trans ei.symm) (q j i lj li z)
theorem nodup_sub {α : Type} [DecidableEq α] : ∀ {l m : List α}, l.Nodup → (∀ x ∈ l, x ∈ m) → l.length ≤ m.length
  | [], _, _, _ => Nat.zero_le _
  | x :: r, m, h, k => by
    obtain ⟨h1, h2⟩ := List.nodup_cons.mp h
    have hx := k x List.mem_cons_self
    have q : r.length ≤ (m.erase x).length := nodup_sub h2 fun y hy => by
      have ne : y ≠ x := fun e => h1 (e ▸ hy)
      exact (List.mem_erase_of_ne ne).mpr (k y (List.mem_cons_of_mem _ hy))
    rw [List.length_erase_of_mem hx] at q
    have p := List.length_pos_of_mem hx
    rw [List.length_cons]
    omega
def cs (x : Str) : List Nat := x.cps.toList
theorem cs_len (x : Str) : x.length = (cs x).length := (Array.length_toList).symm
theorem cs_inj {x y : Str} (h : cs x = cs y) : x = y := by
  cases x
  cases y
  exact congrArg Str.mk (Array.toList_inj.mp h)
theorem cs_app (x y : Str) : cs (x ++ y) = cs x ++ cs y := by
  show (x.cps ++ y.cps).toList = _
  rw [Array.toList_append]
  rfl
theorem cs_mk (l : List Nat) : cs ⟨l.toArray⟩ = l := rfl
theorem cs_join : ∀ ys : List Str, cs (Str.join Str.empty ys) = (ys.map cs).flatten
  | [] => rfl
  | [x] => by simp [Str.join]
  | x :: y :: r => by
    show cs (x ++ Str.empty ++ Str.join Str.empty (y :: r)) = _
    rw [cs_app, cs_app, cs_join (y :: r)]
    show cs x ++ [] ++ _ = _
    rw [List.append_nil]
    rfl
/-- the small letters -/
def abc : Str := "abcdefghijklmnopqrstuvwxyz"
theorem abc_len : (cs abc).length = 26 := by decide +kernel
theorem abc_nodup : (cs abc).Nodup := by decide +kernel
theorem abc_length : abc.length = 26 := by decide +kernel
/-- all signs are small letters -/
def Lw (x : Str) : Prop := ∀ c ∈ cs x, c ∈ cs abc
theorem Lw.app {x y : Str} (h : Lw x) (k : Lw y) : Lw (x ++ y) := fun c hc => by
  rw [cs_app] at hc
  rcases List.mem_append.mp hc with z | z
  · exact h c z
  · exact k c z
theorem Lw.sub {x y : Str} (h : Lw x) (k : ∀ c ∈ cs y, c ∈ cs x) : Lw y := fun c hc => h c (k c hc)
/-- a name -/
def isNm (x : Str) : Bool := decide (1 ≤ x.length) && decide (x.length ≤ 6) && (cs x).all fun c => decide (c ∈ cs abc)
theorem isNm_iff {x : Str} : isNm x = true ↔ 1 ≤ x.length ∧ x.length ≤ 6 ∧ Lw x := by
  unfold isNm
  rw [Bool.and_eq_true, Bool.and_eq_true, decide_eq_true_eq, decide_eq_true_eq, List.all_eq_true]
  constructor
  · rintro ⟨⟨a, b⟩, c⟩
    exact ⟨a, b, fun z hz => of_decide_eq_true (c z hz)⟩
  · rintro ⟨a, b, c⟩
    exact ⟨⟨a, b⟩, fun z hz => decide_eq_true (c z hz)⟩
theorem isNm_len {x : Str} (h : isNm x = true) : x.length ≤ 6 := (isNm_iff.mp h).2.1
/-- the k-th letter -/
def let_ (k : Nat) : Nat := (cs abc).getD k 0
theorem let_at {k : Nat} (h : k < 26) : (cs abc)[k]? = some (let_ k) := by
  have h' : k < (cs abc).length := by rw [abc_len]; exact h
  unfold let_
  rw [List.getD_eq_getElem?_getD, List.getElem?_eq_getElem h']
  rfl
theorem let_mem {k : Nat} (h : k < 26) : let_ k ∈ cs abc := List.mem_of_getElem? (let_at h)
theorem let_inj {i j : Nat} (hi : i < 26) (hj : j < 26) (h : let_ i = let_ j) : i = j := by
  have a := let_at hi
  have b := let_at hj
  rw [h] at a
  exact nodup_at abc_nodup a b
theorem atI_of' {xs : List Nat} {i : Int} {v : Nat} (h0 : 0 ≤ i) (h : xs[i.toNat]? = some v) : atI xs i = some v := by
  have e : i = ((i.toNat : Nat) : Int) := by omega
  rw [e]
  exact atI_nat h
theorem atI_let {k : Int} (h0 : 0 ≤ k) (h1 : k < 26) : atI abc.cps.toList k = some (let_ k.toNat) := atI_of' (xs := (cs abc)) h0 (let_at (by omega))
theorem sline_abc : abc.length ≤ sizeLine := by rw [abc_length]; decide
theorem sqh {K : PySem.W.Frag} {p q : Addr} {H : Hp} {xs : List V} (z : q ≠ p) (h : H q = some (.lst xs)) : SqL K (hid p H) q xs := .inl (.inl (by rw [hid_ne z]; exact h))
theorem sqhT {K : PySem.W.Frag} {p q : Addr} {H : Hp} {xs : List V} (z : q ≠ p) (h : H q = some (.tup xs)) : SqT K (hid p H) q xs := .inl (.inl (by rw [hid_ne z]; exact h))
theorem flatS (xs : List Str) : (xs.map V.str).all flatV = true := by
  rw [List.all_map, List.all_eq_true]
  exact fun _ _ => rfl
theorem inS (x : Str) (xs : List Str) : inV (.str x) (xs.map V.str) = decide (x ∈ xs) := by
  unfold inV
  rw [List.any_map, Bool.eq_iff_iff, List.any_eq_true, decide_eq_true_eq]
  constructor
  · rintro ⟨y, hy, e⟩
    have e' : y = x := beq_iff_eq.mp (show (y == x) = true from e)
    rw [← e']
    exact hy
  · intro hx
    exact ⟨x, hx, beq_self_eq_true x⟩
/-- len of a list or a tuple, by values -/
def rLn (K : PySem.W.Frag) : List V → Hp → VK → Prop := fun xs H Q => ∃ p ys, xs = [.ref p] ∧ (SqL K H p ys ∨ SqT K H p ys) ∧ Q (.int ys.length) H
theorem len_seqK {X : Cx} : CallR X (.builtin "len") (rLn X.K) := call_len_seq
theorem ixe (a b i : Nat) : ((a : Int) + ((b : Int) * ((0 : Int) + (i : Int))) % 26) % 26 = (((a + b * i % 26) % 26 : Nat) : Int) := by
  have e : (b : Int) * ((0 : Int) + (i : Int)) = ((b * i : Nat) : Int) := by rw [Int.zero_add, Int.natCast_mul]
  rw [e]
  omega
theorem stride_of {i : Nat} {v : V} (h : [V.int 1, .int 3, .int 5, .int 7, .int 9, .int 11, .int 25][i]? = some v) : ∃ b : Nat, b ∈ [1, 3, 5, 7, 9, 11, 25] ∧ b ≤ 25 ∧ v = .int (b : Int) := by
  have m := List.mem_of_getElem? h
  simp only [List.mem_cons, List.not_mem_nil, or_false] at m
  rcases m with e | e | e | e | e | e | e
  · exact ⟨1, by decide, by decide, e⟩
  · exact ⟨3, by decide, by decide, e⟩
  · exact ⟨5, by decide, by decide, e⟩
  · exact ⟨7, by decide, by decide, e⟩
  · exact ⟨9, by decide, by decide, e⟩
  · exact ⟨11, by decide, by decide, e⟩
  · exact ⟨25, by decide, by decide, e⟩
/-- the first letters of the signs -/
def sg1 (a b k : Nat) : Str := ⟨#[let_ ((a + b * k % 26) % 26)]⟩
theorem mapr {α : Type} (f : Nat → α) (n : Nat) : (List.range (n + 1)).map f = (List.range n).map f ++ [f n] := by
  rw [List.range_succ, List.map_append]
  rfl
theorem getr {α : Type} (f : Nat → α) {n k : Nat} (h : k < n) : ((List.range n).map f)[k]? = some (f k) := by
  rw [List.getElem?_map, List.getElem?_range h]
  rfl
def strV (v : V) : Str := match v with | .str x => x | _ => Str.empty
theorem perm_strs {ys : List V} {xs : List Str} (h : ys.Perm (xs.map V.str)) : ∃ zs : List Str, ys = zs.map V.str ∧ zs.Perm xs := by
  refine ⟨ys.map strV, ?_, ?_⟩
  · rw [List.map_map]
    refine (List.map_id ys).symm.trans (List.map_congr_left fun v hv => ?_)
    obtain ⟨x, _, rfl⟩ := List.mem_map.mp (h.mem_iff.mp hv)
    rfl
  · have q := h.map strV
    rw [List.map_map] at q
    have e : xs.map (strV ∘ V.str) = xs := (List.map_congr_left fun _ _ => rfl).trans (List.map_id xs)
    rw [e] at q
    exact q
theorem cut_to {n : Int} (xs : List V) (h : 0 ≤ n) : cutV xs none (some n) = xs.take n.toNat := by
  have e : n = ((n.toNat : Nat) : Int) := by omega
  unfold cutV
  rw [HT.sIx_none, e, HT.sIx_nat, List.drop_zero, Nat.sub_zero, Int.toNat_natCast, Nat.min_def]
  split
  · rfl
  · rw [List.take_length, List.take_of_length_le (by omega)]
/-! slices of texts -/
theorem cs_cut (z : Str) (lo hi : Option Int) : cs (cutS z lo hi) = ((cs z).drop (HT.sIx z.length 0 lo)).take (HT.sIx z.length z.length hi - HT.sIx z.length 0 lo) := rfl
theorem cs_cut_to (z : Str) (n : Int) (h : 0 ≤ n) : cs (cutS z none (some n)) = (cs z).take n.toNat := by
  have e : n = ((n.toNat : Nat) : Int) := by omega
  rw [cs_cut, HT.sIx_none, e, HT.sIx_nat, List.drop_zero, Nat.sub_zero, Int.toNat_natCast, Nat.min_def]
  split
  · rfl
  · rename_i hn
    rw [cs_len, List.take_length, List.take_of_length_le (by rw [← cs_len]; omega)]
theorem cs_cut_from (z : Str) (n : Int) (h : 0 ≤ n) (h2 : n ≤ z.length) : cs (cutS z (some n) none) = (cs z).drop n.toNat := by
  have e : n = ((n.toNat : Nat) : Int) := by omega
  rw [cs_cut, HT.sIx_none, e, HT.sIx_nat, Int.toNat_natCast, Nat.min_eq_left (by omega)]
  rw [cs_len, ← List.length_drop, List.take_length]
/-! the signs of names: the letter at (first + stride * k % 26) % 26, and a second one from 26 on -/
def sgn (a b : Nat) (k : Nat) : Str := ⟨#[let_ ((a + b * k % 26) % 26)]⟩ ++ (if k < 26 then Str.empty else ⟨#[let_ (k / 26)]⟩)
theorem sgn_cs (a b k : Nat) : cs (sgn a b k) = let_ ((a + b * k % 26) % 26) :: (if k < 26 then [] else [let_ (k / 26)]) := by
  unfold sgn
  rw [cs_app]
  split <;> rfl
theorem sgn_len (a b k : Nat) : (sgn a b k).length = if k < 26 then 1 else 2 := by
  rw [cs_len, sgn_cs]
  split <;> rfl
theorem sgn_lw (a b : Nat) {k : Nat} (h : k < 40) : Lw (sgn a b k) := by
  intro c hc
  rw [sgn_cs] at hc
  rcases List.mem_cons.mp hc with z | z
  · rw [z]
    exact let_mem (Nat.mod_lt _ (by decide))
  · split at z
    · cases z
    · rw [List.mem_singleton.mp z]
      exact let_mem (by omega)
theorem sgn_inj {a b i j : Nat} (ha : a < 26) (hb : b ∈ [1, 3, 5, 7, 9, 11, 25]) (hi : i < 40) (hj : j < 40) (h : sgn a b i = sgn a b j) : i = j := by
  have e : sgE a b i = sgE a b j := by
    have q := congrArg cs h
    rw [sgn_cs, sgn_cs] at q
    injection q with q1 q2
    have q3 := let_inj (Nat.mod_lt _ (by decide)) (Nat.mod_lt _ (by decide)) q1
    unfold sgE
    rw [q3]
    have q4 : i / 26 = j / 26 := by
      by_cases h1 : i < 26
      · by_cases h2 : j < 26
        · omega
        · rw [if_pos h1, if_neg h2] at q2
          cases q2
      · by_cases h2 : j < 26
        · rw [if_neg h1, if_pos h2] at q2
          cases q2
        · rw [if_neg h1, if_neg h2] at q2
          injection q2 with q5
          exact let_inj (by omega) (by omega) q5
    rw [q4]
  have nd := sgE_nodup a ha b hb
  have g1 : ((List.range 40).map (sgE a b))[i]? = some (sgE a b i) := by
    rw [List.getElem?_map, List.getElem?_range hi]
    rfl
  have g2 : ((List.range 40).map (sgE a b))[j]? = some (sgE a b j) := by
    rw [List.getElem?_map, List.getElem?_range hj]
    rfl
  rw [e] at g1
  exact nodup_at nd g1 g2
def sgns (a b n : Nat) : List Str := (List.range n).map (sgn a b)
theorem sgns_nodup {a b n : Nat} (ha : a < 26) (hb : b ∈ [1, 3, 5, 7, 9, 11, 25]) (hn : n ≤ 40) : (sgns a b n).Nodup := by
  unfold sgns
  rw [List.Nodup, List.pairwise_map]
  refine List.Pairwise.imp_of_mem ?_ List.nodup_range
  intro i j hi hj hne e
  exact hne (sgn_inj ha hb (by have := List.mem_range.mp hi; omega) (by have := List.mem_range.mp hj; omega) e)
theorem sgns_len (a b n : Nat) : (sgns a b n).length = n := by
  unfold sgns
  rw [List.length_map, List.length_range]
theorem sgns_mem {a b n : Nat} {x : Str} (hn : n ≤ 40) (h : x ∈ sgns a b n) : 1 ≤ x.length ∧ x.length ≤ 2 ∧ Lw x := by
  obtain ⟨k, hk, rfl⟩ := List.mem_map.mp h
  have hk' : k < n := List.mem_range.mp hk
  rw [sgn_len]
  refine ⟨?_, ?_, sgn_lw a b (by omega)⟩
  · split <;> omega
  · split <;> omega
/-- the words that stand in texts too -/
def kno : List Str := ["find", "finds", "word", "fact", "before", "first", "last", "lot", "never", "all", "rest", "self"]
theorem kno_nodup : kno.Nodup := by decide +kernel
theorem kno_ok : ∀ x ∈ kno, isNm x = true ∧ 3 ≤ x.length := by decide +kernel
theorem kno_len : kno.length = 12 := rfl
/-- names: each once -/
def Nms (xs : List Str) : Prop := xs.Nodup ∧ ∀ x ∈ xs, isNm x = true
theorem nms_known {ys : List Str} {a b n : Nat} (ha : a < 26) (hb : b ∈ [1, 3, 5, 7, 9, 11, 25]) (hn : n ≤ 40) (h : ys.Perm kno) (m : Nat) : Nms ((ys ++ sgns a b n).take m) := by
  have nd : (ys ++ sgns a b n).Nodup := by
    rw [List.nodup_append]
    refine ⟨h.nodup_iff.mpr kno_nodup, sgns_nodup ha hb hn, fun x hx y hy e => ?_⟩
    have q1 := (kno_ok x (h.mem_iff.mp hx)).2
    have q2 := (sgns_mem hn hy).2.1
    rw [e] at q1
    omega
  refine ⟨nd.sublist (List.take_sublist _ _), fun x hx => ?_⟩
  rcases List.mem_append.mp (List.mem_of_mem_take hx) with z | z
  · exact (kno_ok x (h.mem_iff.mp z)).1
  · obtain ⟨q1, q2, q3⟩ := sgns_mem hn z
    exact isNm_iff.mpr ⟨q1, by omega, q3⟩
/-- names by a stem around a sign -/
def stm (w : Str) (i : Nat) (s : Str) : Str := ⟨((cs w).take i).toArray⟩ ++ s ++ ⟨((cs w).drop i).toArray⟩
theorem stm_cs (w : Str) (i : Nat) (s : Str) : cs (stm w i s) = (cs w).take i ++ cs s ++ (cs w).drop i := by
  unfold stm
  rw [cs_app, cs_app]
  rfl
theorem stm_eq {w s : Str} {i : Int} (h0 : 0 ≤ i) (h1 : i ≤ w.length) : cutS w none (some i) ++ s ++ cutS w (some i) none = stm w i.toNat s := by
  refine cs_inj ?_
  rw [cs_app, cs_app, cs_cut_to _ _ h0, cs_cut_from _ _ h0 h1, stm_cs]
theorem nms_stem {w : Str} {i a b n : Nat} (hw : Lw w) (hl : w.length ≤ 4) (ha : a < 26) (hb : b ∈ [1, 3, 5, 7, 9, 11, 25]) (hn : n ≤ 40) : Nms ((sgns a b n).map (stm w i)) := by
  refine ⟨?_, fun x hx => ?_⟩
  · rw [List.Nodup, List.pairwise_map]
    refine List.Pairwise.imp ?_ (sgns_nodup ha hb hn)
    intro x y hne e
    have q := congrArg cs e
    rw [stm_cs, stm_cs] at q
    exact hne (cs_inj (List.append_cancel_left (List.append_cancel_right q)))
  · obtain ⟨s, hs, rfl⟩ := List.mem_map.mp hx
    obtain ⟨q1, q2, q3⟩ := sgns_mem hn hs
    rw [cs_len] at q1 q2 hl
    refine isNm_iff.mpr ⟨?_, ?_, fun c hc => ?_⟩
    · rw [cs_len, stm_cs, List.length_append, List.length_append]; omega
    · rw [cs_len, stm_cs, List.length_append, List.length_append, List.length_take, List.length_drop]; omega
    · rw [stm_cs] at hc
      rcases List.mem_append.mp hc with z | z
      · rcases List.mem_append.mp z with z | z
        · exact hw c (List.mem_of_mem_take z)
        · exact q3 c z
      · exact hw c (List.mem_of_mem_drop z)
theorem nm_word {x : Str} (h : Lw x) (h1 : 1 ≤ x.length) (h2 : (x.length : Int) ≤ 6) : isNm x = true := isNm_iff.mpr ⟨h1, by omega, h⟩
theorem nm_long {x y : Str} (h : isNm x = true) (k : Lw y) : isNm (cutS (x ++ y) none (some 6)) = true := by
  obtain ⟨h1, h2, h3⟩ := isNm_iff.mp h
  have e : cs (cutS (x ++ y) none (some 6)) = (cs (x ++ y)).take 6 := cs_cut_to _ 6 (by decide)
  rw [cs_len] at h1
  refine isNm_iff.mpr ⟨?_, ?_, fun c hc => ?_⟩
  · rw [cs_len, e, List.length_take, cs_app, List.length_append]
    omega
  · rw [cs_len, e, List.length_take]
    omega
  · rw [e] at hc
    exact h3.app k c (List.mem_of_mem_take hc)
/-- one name more -/
theorem Nms.snoc {xs : List Str} {x : Str} (h : Nms xs) (hx : isNm x = true) (n : x ∉ xs) : Nms (xs ++ [x]) := by
  refine ⟨?_, fun y hy => ?_⟩
  · rw [List.nodup_append]
    exact ⟨h.1, List.pairwise_singleton _ _, fun a ha b hb e => n (by rw [← List.mem_singleton.mp hb, ← e]; exact ha)⟩
  · rcases List.mem_append.mp hy with z | z
    · exact h.2 y z
    · rw [List.mem_singleton.mp z]
      exact hx
/-- a sign is left while there are fewer names than signs -/
theorem spare_left {xs ss : List Str} (h : ss.Nodup) (hl : xs.length < ss.length) : ∃ s r, ss.filter (fun s => !decide (s ∈ xs)) = s :: r := by
  cases e : ss.filter (fun s => !decide (s ∈ xs)) with
  | cons s r => exact ⟨s, r, rfl⟩
  | nil =>
    exfalso
    have all : ∀ s ∈ ss, s ∈ xs := fun s hs => by
      have q := List.filter_eq_nil_iff.mp e s hs
      simpa using q
    have sub := nodup_sub h all
    omega
end Th
/-! data that is written in the text, and data judged -/
namespace Th
open PySem PySem.Spec PyProof.Rows L2
def Lit (K : PySem.W.Frag) (t : TE) (d : PyData) : Prop := ∀ (D : DS) (σ : L2.St) (H : Hp) (Q : VK), Drw D H → (∀ v H', Go D H H' → Da K (hid D.p H') v d → Q v H') → t σ H Q
def LitA (K : PySem.W.Frag) (t : TA) (ds : List PyData) : Prop := ∀ (D : DS) (σ : L2.St) (H : Hp) (Q : List V → Hp → Prop), Drw D H → (∀ vs H', Go D H H' → DaAll K (hid D.p H') vs ds → Q vs H') → t σ H Q
section
variable {K : PySem.W.Frag}
theorem lit_non : Lit K (tC .non) .none := fun D σ H Q d q => q _ H (.refl d) .non
theorem lit_bl (b : Bool) : Lit K (tC (.bl b)) (.bool b) := fun D σ H Q d q => q _ H (.refl d) (.bl b)
theorem lit_int (i : Int) : Lit K (tC (.int i)) (.int i) := fun D σ H Q d q => q _ H (.refl d) (.int i)
theorem lit_neg (i : Int) : Lit K (tUn (rU fun i => .int (-i)) (tC (.int i))) (.int (-i)) := fun D σ H Q d q => ⟨i, rfl, q _ H (.refl d) (.int (-i))⟩
theorem lit_str (x : Str) : Lit K (tC (.str x)) (.str x) := fun D σ H Q d q => q _ H (.refl d) (.str x)
theorem lita_nil : LitA K tNil [] := fun D σ H Q d q => q _ H (.refl d) .nil
theorem lita_cons {t : TE} {d : PyData} {ta : TA} {ds : List PyData} (h : Lit K t d) (r : LitA K ta ds) : LitA K (tCons t ta) (d :: ds) := fun D σ H Q dr q =>
  h D σ H _ dr fun v H1 g1 h1 => r D σ H1 _ g1.st fun vs H2 g2 h2 => q _ H2 (g1.trans g2) (.cons (h1.to g2.sm) h2)
theorem lit_tup {ta : TA} {ds : List PyData} (h : LitA K ta ds) (hl : ds.length ≤ 100000) : Lit K (tTup ta) (.tuple ds) := fun D σ H Q dr q =>
  h D σ H _ dr fun vs H1 g1 h1 => ⟨sline (by rw [h1.len]; exact hl), fun p np => by
    have z := g1.st.ne_new np
    have g2 := g1.new (o := .tup vs) np
    refine q _ _ g2 (Da.newT (by rw [hid_ne z]; exact upd_same) (h1.to (Go.of g1.st (same_new np)).sm))⟩
theorem lit_lst {ta : TA} {ds : List PyData} (h : LitA K ta ds) (hl : ds.length ≤ 100000) : Lit K (tLst ta) (.list ds) := fun D σ H Q dr q =>
  h D σ H _ dr fun vs H1 g1 h1 => ⟨sline (by rw [h1.len]; exact hl), fun p np => by
    have z := g1.st.ne_new np
    have g2 := g1.new (o := .lst vs) np
    refine q _ _ g2 (Da.newL (by rw [hid_ne z]; exact upd_same) (h1.to (Go.of g1.st (same_new np)).sm))⟩
/-- the datum that an expression of constants, tuples and lists writes -/
def litE : Nat → Expr → Option PyData
  | _, .Constant .none _ _ => some .none
  | _, .Constant (.bool b) _ _ => some (.bool b)
  | _, .Constant (.int i) _ _ => some (.int i)
  | _, .Constant (.str x) _ _ => some (.str x)
  | _, .UnaryOp .USub (.Constant (.int i) _ _) _ => some (.int (-i))
  | n + 1, .Tuple es _ _ => (litEs (litE n) es).bind fun ds => if ds.length ≤ 1000 then some (.tuple ds) else none
  | n + 1, .List es _ => (litEs (litE n) es).bind fun ds => if ds.length ≤ 1000 then some (.list ds) else none
  | _, _ => none
where litEs (f : Expr → Option PyData) : List Expr → Option (List PyData)
  | [] => some []
  | e :: es => (f e).bind fun d => (litEs f es).map (d :: ·)
def NoStar (X : Cx) (e : Expr) : Prop := ∀ es, starEach (e :: es) X.env = (false, eval e X.env) :: starEach es X.env
theorem litEs_ok {X : Cx} {f : Expr → Option PyData} (hf : ∀ e d, f e = some d → ∃ t, PE X e t ∧ Lit K t d ∧ NoStar X e) : ∀ (es : List Expr) (ds : List PyData), litE.litEs f es = some ds → ∃ t, PA X es t ∧ LitA K t ds
  | [], ds, h => by
    cases h
    exact ⟨_, pa_nil, lita_nil⟩
  | e :: es, ds, h => by
    unfold litE.litEs at h
    cases h1 : f e with
    | none =>
      rw [h1] at h
      cases h
    | some d =>
      rw [h1] at h
      cases h2 : litE.litEs f es with
      | none =>
        rw [h2] at h
        cases h
      | some r =>
        rw [h2] at h
        cases h
        obtain ⟨t, a1, a2, a3⟩ := hf e d h1
        obtain ⟨u, b1, b2⟩ := litEs_ok hf es r h2
        exact ⟨_, pa_cons a1 b1 (a3 es), lita_cons a2 b2⟩
theorem litE_ok {X : Cx} : ∀ (n : Nat) (e : Expr) (d : PyData), litE n e = some d → ∃ t, PE X e t ∧ Lit K t d ∧ NoStar X e := by
  intro n
  induction n with
  | zero =>
    intro e d h
    unfold litE at h
    split at h
    · cases h; exact ⟨_, pe_non, lit_non, fun _ => rfl⟩
    · cases h; exact ⟨_, pe_bl, lit_bl _, fun _ => rfl⟩
    · cases h; exact ⟨_, pe_int, lit_int _, fun _ => rfl⟩
    · cases h; exact ⟨_, pe_str, lit_str _, fun _ => rfl⟩
    · cases h; exact ⟨_, pe_un un_neg pe_int, lit_neg _, fun _ => rfl⟩
    all_goals first | (exfalso; omega) | cases h
  | succ n ih =>
    intro e d h
    unfold litE at h
    split at h
    · cases h; exact ⟨_, pe_non, lit_non, fun _ => rfl⟩
    · cases h; exact ⟨_, pe_bl, lit_bl _, fun _ => rfl⟩
    · cases h; exact ⟨_, pe_int, lit_int _, fun _ => rfl⟩
    · cases h; exact ⟨_, pe_str, lit_str _, fun _ => rfl⟩
    · cases h; exact ⟨_, pe_un un_neg pe_int, lit_neg _, fun _ => rfl⟩
    · rename_i m es x1 p he
      obtain rfl := Nat.succ.inj he
      cases h1 : litE.litEs (litE n) es with
      | none => rw [h1] at h; cases h
      | some ds =>
        rw [h1] at h
        simp only [Option.bind_some] at h
        split at h
        · cases h
          obtain ⟨t, b1, b2⟩ := litEs_ok ih es ds h1
          exact ⟨_, pe_tup b1, lit_tup b2 (by omega), fun _ => rfl⟩
        · cases h
    · rename_i m es p he
      obtain rfl := Nat.succ.inj he
      cases h1 : litE.litEs (litE n) es with
      | none => rw [h1] at h; cases h
      | some ds =>
        rw [h1] at h
        simp only [Option.bind_some] at h
        split at h
        · cases h
          obtain ⟨t, b1, b2⟩ := litEs_ok ih es ds h1
          exact ⟨_, pe_lst b1, lit_lst b2 (by omega), fun _ => rfl⟩
        · cases h
    · cases h
/-- what a list of data holds -/
theorem Da.inL {H : Hp} {p : Addr} {ds : List PyData} (h : Da K H (.ref p) (.list ds)) : ∃ xs, SqL K H p xs ∧ DaAll K H xs ds := by
  cases h with
  | lst hs _ ha => exact ⟨_, hs, ha⟩
theorem Da.inT {H : Hp} {p : Addr} {ds : List PyData} (h : Da K H (.ref p) (.tuple ds)) : ∃ xs, SqT K H p xs ∧ DaAll K H xs ds := by
  cases h with
  | tup hs _ ha => exact ⟨_, hs, ha⟩
end
theorem kit_lt {K : PySem.W.Frag} (d : PyData) (h : tyD d ≠ "dict") : PySem.W.kitAny K (.type (tyD d)) [.type "list", .type "tuple"] = some (decide (tyD d = "list" ∨ tyD d = "tuple")) := by
  by_cases e1 : tyD d = "list"
  · refine kitAny_cons (kit_ty (kit_list d h)) (fun z => ?_) (fun _ => ?_)
    · rw [decide_eq_true e1] at z
      cases z
    · exact decide_eq_true (.inl e1)
  · refine kitAny_cons (kit_ty (kit_list d h)) (fun _ => ?_) (fun z => absurd (of_decide_eq_true z) e1)
    refine kitAny_cons (kit_ty (kit_tuple d h)) (fun z => ?_) (fun z => decide_eq_true (.inr (of_decide_eq_true z)))
    rw [kitAny_nil, decide_eq_false]
    rintro (q | q)
    · exact e1 q
    · exact of_decide_eq_false z q
/-- depth below n, sizes small -/
def Lv : Nat → PyData → Prop
  | _, .none => True
  | _, .bool _ => True
  | _, .int _ => True
  | _, .str x => x.length ≤ 100000 ∧ PyData.strOk x = true
  | 0, .list _ => False
  | 0, .tuple _ => False
  | n + 1, .list xs => xs.length ≤ 60 ∧ ∀ x ∈ xs, Lv n x
  | n + 1, .tuple xs => xs.length ≤ 60 ∧ ∀ x ∈ xs, Lv n x
  | _, .dict _ => False
def lvB : Nat → PyData → Bool
  | _, .none => true
  | _, .bool _ => true
  | _, .int _ => true
  | _, .str x => decide (x.length ≤ 100000) && PyData.strOk x
  | 0, .list _ => false
  | 0, .tuple _ => false
  | n + 1, .list xs => decide (xs.length ≤ 60) && xs.all (lvB n)
  | n + 1, .tuple xs => decide (xs.length ≤ 60) && xs.all (lvB n)
  | _, .dict _ => false
theorem lv_of : ∀ (n : Nat) (d : PyData), lvB n d = true → Lv n d
  | 0, .none, _ => trivial
  | 0, .bool _, _ => trivial
  | 0, .int _, _ => trivial
  | 0, .str x, h => by
    obtain ⟨a, b⟩ := Bool.and_eq_true_iff.mp h
    exact ⟨of_decide_eq_true a, b⟩
  | 0, .list _, h => nomatch h
  | 0, .tuple _, h => nomatch h
  | 0, .dict _, h => nomatch h
  | n + 1, .none, _ => trivial
  | n + 1, .bool _, _ => trivial
  | n + 1, .int _, _ => trivial
  | n + 1, .str x, h => by
    obtain ⟨a, b⟩ := Bool.and_eq_true_iff.mp h
    exact ⟨of_decide_eq_true a, b⟩
  | n + 1, .list xs, h => by
    obtain ⟨a, b⟩ := Bool.and_eq_true_iff.mp h
    exact ⟨of_decide_eq_true a, fun x hx => lv_of n x (List.all_eq_true.mp b x hx)⟩
  | n + 1, .tuple xs, h => by
    obtain ⟨a, b⟩ := Bool.and_eq_true_iff.mp h
    exact ⟨of_decide_eq_true a, fun x hx => lv_of n x (List.all_eq_true.mp b x hx)⟩
  | n + 1, .dict _, h => nomatch h
theorem Lv.up : ∀ (n : Nat) (d : PyData), Lv n d → Lv (n + 1) d
  | 0, .none, _ => trivial
  | 0, .bool _, _ => trivial
  | 0, .int _, _ => trivial
  | 0, .str x, h => h
  | 0, .list _, h => h.elim
  | 0, .tuple _, h => h.elim
  | 0, .dict _, h => h.elim
  | n + 1, .none, _ => trivial
  | n + 1, .bool _, _ => trivial
  | n + 1, .int _, _ => trivial
  | n + 1, .str x, h => h
  | n + 1, .list xs, h => ⟨h.1, fun x hx => Lv.up n x (h.2 x hx)⟩
  | n + 1, .tuple xs, h => ⟨h.1, fun x hx => Lv.up n x (h.2 x hx)⟩
  | n + 1, .dict _, h => h.elim
mutual
theorem Lv.shape : ∀ (n : Nat) (d : PyData), Lv n d → d.canLay0 = true ∧ d.depth ≤ n
  | 0, .none, _ => ⟨by simp only [PyData.canLay0], by simp [PyData.depth]⟩
  | 0, .bool _, _ => ⟨by simp only [PyData.canLay0], by simp [PyData.depth]⟩
  | 0, .int _, _ => ⟨by simp only [PyData.canLay0], by simp [PyData.depth]⟩
  | 0, .str x, h => ⟨by simp only [PyData.canLay0]; exact h.2, by simp [PyData.depth]⟩
  | 0, .list _, h => h.elim
  | 0, .tuple _, h => h.elim
  | 0, .dict _, h => h.elim
  | n + 1, .none, _ => ⟨by simp only [PyData.canLay0], by simp [PyData.depth]⟩
  | n + 1, .bool _, _ => ⟨by simp only [PyData.canLay0], by simp [PyData.depth]⟩
  | n + 1, .int _, _ => ⟨by simp only [PyData.canLay0], by simp [PyData.depth]⟩
  | n + 1, .str x, h => ⟨by simp only [PyData.canLay0]; exact h.2, by simp [PyData.depth]⟩
  | n + 1, .list xs, h => by
    obtain ⟨a, b⟩ := Lv.shapes n xs h.2
    exact ⟨by simp only [PyData.canLay0]; exact a, by simp only [PyData.depth]; omega⟩
  | n + 1, .tuple xs, h => by
    obtain ⟨a, b⟩ := Lv.shapes n xs h.2
    exact ⟨by simp only [PyData.canLay0]; exact a, by simp only [PyData.depth]; omega⟩
  | n + 1, .dict _, h => h.elim
theorem Lv.shapes : ∀ (n : Nat) (xs : List PyData), (∀ x ∈ xs, Lv n x) → PyData.canLayAll0 xs = true ∧ PyData.depthAll xs ≤ n
  | n, [], _ => ⟨by simp only [PyData.canLayAll0], by simp [PyData.depthAll]⟩
  | n, x :: xs, h => by
    obtain ⟨a, b⟩ := Lv.shape n x (h x List.mem_cons_self)
    obtain ⟨c, e⟩ := Lv.shapes n xs fun y hy => h y (List.mem_cons_of_mem _ hy)
    exact ⟨by simp only [PyData.canLayAll0, a, c, Bool.and_self], by simp only [PyData.depthAll]; omega⟩
end
theorem Lv.shaped {n : Nat} {d : PyData} (h : Lv n d) (hn : n ≤ 64) : SeqAt.shaped d = true := by
  obtain ⟨a, b⟩ := Lv.shape n d h
  unfold SeqAt.shaped
  rw [a, decide_eq_true (by omega)]
  rfl
theorem strOk_lw {x : Str} (h : Lw x) : PyData.strOk x = true := by
  unfold PyData.strOk
  rw [Array.all_eq_true']
  intro c hc
  have q := h c (by unfold cs; exact Array.mem_toList_iff.mpr hc)
  have all : ∀ c ∈ cs abc, c < 0x110000 := by decide +kernel
  exact decide_eq_true (all c q)
theorem lv_nm {n : Nat} {x : Str} (h : isNm x = true) : Lv n (.str x) := by
  obtain ⟨h1, h2, h3⟩ := isNm_iff.mp h
  have q : x.length ≤ 100000 ∧ PyData.strOk x = true := ⟨by omega, strOk_lw h3⟩
  cases n <;> exact q
/-- a datum is a name -/
def nmD : PyData → Bool
  | .str x => isNm x
  | _ => false
/-- data that comes now and then -/
def odds : List PyData := [.none, .bool true, .bool false, .int 0, .int 1, .int (-1), .int 30, .int 999999999, .str "", .str "a", .str "A", .str "ab1", .str "abcdefg", .str "a b", .str "a\n", .str "{", .tuple [], .list [], .tuple [.str "a"], .list [.str "a"],
  .tuple [.str "b", .str "a"], .tuple [.str "a", .str "a"], .tuple [.str "a", .int 1], .tuple [.none], .tuple [.bool true], .tuple [.tuple [.str "a"]], .list [.list [.str "a"]], .tuple [.str "a", .list [.str "a"]], .tuple [.str "a", .str ""], .tuple [.str "a", .str "B"],
  .list [.str "a", .tuple [.str "a"]], .tuple [.str "a", .tuple [.str "b", .str "a"]], .tuple [.str "a", .tuple []], .tuple [.str "a", .list []], .tuple [.int 1, .tuple [.str "a"]]]
theorem odds_lv : ∀ d ∈ odds, Lv 2 d := by
  have h : odds.all (lvB 2) = true := by decide +kernel
  exact fun d hd => lv_of 2 d (List.all_eq_true.mp h d hd)
/-- one deeper -/
def LvN : Nat → PyData → Prop
  | 0, _ => False
  | n + 1, d => Lv n d
theorem lvn_list {n : Nat} {xs : List PyData} (h : Lv n (.list xs)) : xs.length ≤ 60 ∧ ∀ x ∈ xs, LvN n x := by
  cases n with
  | zero => exact h.elim
  | succ n => exact h
theorem lvn_tuple {n : Nat} {xs : List PyData} (h : Lv n (.tuple xs)) : xs.length ≤ 60 ∧ ∀ x ∈ xs, LvN n x := by
  cases n with
  | zero => exact h.elim
  | succ n => exact h
theorem da_two {K : PySem.W.Frag} {H : Hp} {v u : V} {d : PyData} {k : Nat} (hv : Da K H v d) (hu : Da K H u d) (h : tyD d = "list" ∨ tyD d = "tuple") (lv : Lv k d) :
    ∃ p r xs ys ds, v = .ref p ∧ u = .ref r ∧ (SqL K H p xs ∨ SqT K H p xs) ∧ (SqL K H r ys ∨ SqT K H r ys) ∧ DaAll K H xs ds ∧ DaAll K H ys ds ∧ ds.length ≤ 60 ∧ ∀ x ∈ ds, LvN k x := by
  cases d with
  | list ds =>
    cases hv with
    | lst h1 _ h2 =>
      cases hu with
      | lst g1 _ g2 => exact ⟨_, _, _, _, ds, rfl, rfl, .inl h1, .inl g1, h2, g2, (lvn_list lv).1, (lvn_list lv).2⟩
  | tuple ds =>
    cases hv with
    | tup h1 _ h2 =>
      cases hu with
      | tup g1 _ g2 => exact ⟨_, _, _, _, ds, rfl, rfl, .inr h1, .inr g1, h2, g2, (lvn_tuple lv).1, (lvn_tuple lv).2⟩
  | none => rcases h with h | h <;> exact absurd h (by decide)
  | bool b => rcases h with h | h <;> exact absurd (show ("bool" : String) = _ from h) (by decide)
  | int b => rcases h with h | h <;> exact absurd (show ("int" : String) = _ from h) (by decide)
  | str b => rcases h with h | h <;> exact absurd (show ("str" : String) = _ from h) (by decide)
  | dict b => cases hv
theorem ix_any {K : PySem.W.Frag} {H : Hp} {p : Addr} {xs : List V} {i : Nat} {v : V} {Q : VK} (h : SqL K H p xs ∨ SqT K H p xs) (e : xs[i]? = some v) (q : Q v H) : rIx K (.ref p) (.int ((0 : Int) + (i : Int))) H Q := by
  have a : atI xs ((0 : Int) + (i : Int)) = some v := by
    rw [Int.zero_add]
    exact atI_nat e
  rcases h with h | h
  · exact .inl ⟨p, xs, _, v, rfl, rfl, h, a, q⟩
  · exact .inr (.inl ⟨p, xs, _, v, rfl, rfl, h, a, q⟩)
theorem sq_any {K : PySem.W.Frag} {H H' : Hp} {p : Addr} {xs : List V} (s : Same H H') (h : SqL K H p xs ∨ SqT K H p xs) : SqL K H' p xs ∨ SqT K H' p xs := h.imp s.seq (same_t s)
/-- a judge of one datum, that changes nothing -/
def spJ (K : PySem.W.Frag) (n : Nat) (j : PyData → Bool) : Sp := fun vs H Q _ => ∃ (v : V) (d : PyData), vs = [v] ∧ Da K H v d ∧ Lv n d ∧ ∀ H', Same H H' → Q (.bl (j d)) H'
end Th
/-! texts in order, lots, statements -/
namespace Th
open PySem PySem.Spec PyProof.Rows L2
/-- x stands behind y or is y -/
def leS (x y : Str) : Prop := ¬ cs y < cs x
theorem ltCps_iff (x y : Str) : ltCps x.cps.toList y.cps.toList = decide (cs x < cs y) := by
  first | rfl | (rw [ltCps_eq]; rfl) | exact ltCps_eq ..
theorem rising_pair : ∀ (r : List Str) (p : Str), risingS p r = true → (p :: r).Pairwise leS
  | [], p, _ => List.pairwise_singleton _ _
  | x :: r, p, h => by
    have h' : (!ltCps x.cps.toList p.cps.toList && risingS x r) = true := h
    obtain ⟨a, b⟩ := Bool.and_eq_true_iff.mp h'
    have a' : leS p x := by
      rw [ltCps_iff] at a
      intro z
      rw [decide_eq_true z] at a
      cases a
    have ih := rising_pair r x b
    refine List.pairwise_cons.mpr ⟨fun y hy => ?_, ih⟩
    rcases List.mem_cons.mp hy with e | hy
    · rw [e]; exact a'
    · have q := (List.pairwise_cons.mp ih).1 y hy
      intro z
      have t1 := Std.lt_of_lt_of_le z (Std.not_lt.mp a')
      exact q t1
theorem sorted_pair {l : List Str} (h : sortedS l = true) : l.Pairwise leS := by
  cases l with
  | nil => exact List.Pairwise.nil
  | cons x r => exact rising_pair r x h
theorem leS_anti {x y : Str} (a : leS x y) (b : leS y x) : x = y := cs_inj (Std.le_antisymm (Std.not_lt.mp a) (Std.not_lt.mp b))
/-- one list in order has these members -/
theorem sorted_one : ∀ {l m : List Str}, l.Perm m → l.Pairwise leS → m.Pairwise leS → l = m
  | [], m, p, _, _ => (List.nil_perm.mp p).symm
  | x :: l, [], p, _, _ => (List.perm_nil.mp p)
  | x :: l, y :: m, p, h, k => by
    obtain ⟨h1, h2⟩ := List.pairwise_cons.mp h
    obtain ⟨k1, k2⟩ := List.pairwise_cons.mp k
    have e : x = y := by
      rcases List.mem_cons.mp (p.mem_iff.mp (List.mem_cons_self (a := x) (l := l))) with e | hx
      · exact e
      · rcases List.mem_cons.mp (p.mem_iff.mpr (List.mem_cons_self (a := y) (l := m))) with e | hy
        · exact e.symm
        · exact leS_anti (h1 y hy) (k1 x hx)
    subst e
    rw [sorted_one (List.perm_cons _ |>.mp p) h2 k2]
/-- each below the next -/
def risB : List Str → Bool
  | x :: y :: r => decide (cs x < cs y) && risB (y :: r)
  | _ => true
theorem ris_pair : ∀ {l : List Str}, risB l = true → l.Pairwise (fun x y => cs x < cs y)
  | [], _ => List.Pairwise.nil
  | [x], _ => List.pairwise_singleton _ _
  | x :: y :: r, h => by
    obtain ⟨a, b⟩ := Bool.and_eq_true_iff.mp (show (decide (cs x < cs y) && risB (y :: r)) = true from h)
    have ih := ris_pair b
    have a' := of_decide_eq_true a
    refine List.pairwise_cons.mpr ⟨fun z hz => ?_, ih⟩
    rcases List.mem_cons.mp hz with e | hz
    · rw [e]; exact a'
    · exact Std.lt_trans a' ((List.pairwise_cons.mp ih).1 z hz)
theorem pair_ris : ∀ {l : List Str}, l.Pairwise (fun x y => cs x < cs y) → risB l = true
  | [], _ => rfl
  | [x], _ => rfl
  | x :: y :: r, h => by
    obtain ⟨h1, h2⟩ := List.pairwise_cons.mp h
    show (decide (cs x < cs y) && risB (y :: r)) = true
    rw [decide_eq_true (h1 y List.mem_cons_self), pair_ris h2]
    rfl
theorem ris_nodup {l : List Str} (h : risB l = true) : l.Nodup := (ris_pair h).imp fun {x y} a e => by
  rw [e] at a
  exact Std.lt_irrefl a
theorem ris_le {l : List Str} (h : risB l = true) : l.Pairwise leS := (ris_pair h).imp fun {x y} a z => Std.lt_irrefl (Std.lt_trans a z)
theorem once_perm {xs : List Str} (h : xs.Nodup) : (once [] xs).Perm xs := by
  refine (List.perm_ext_iff_of_nodup (once_nodup xs [] List.nodup_nil) h).mpr fun y => ?_
  rw [once_mem]
  simp
/-- the texts in order, each once, are the texts themselves exactly if each is below the next -/
theorem lot_iff {xs ys : List Str} (p : ys.Perm (once [] xs)) (s : sortedS ys = true) : xs = ys ↔ risB xs = true := by
  constructor
  · intro e
    rw [e]
    have nd : ys.Nodup := p.nodup_iff.mpr (once_nodup xs [] List.nodup_nil)
    refine pair_ris ?_
    refine List.Pairwise.imp_of_mem (R := fun x y => leS x y ∧ x ≠ y) ?_ ((sorted_pair s).and nd)
    intro x y _ _ ⟨a, b⟩
    rcases Std.lt_trichotomy (cs x) (cs y) with z | z | z
    · exact z
    · exact absurd (cs_inj z) b
    · exact absurd z a
  · intro h
    exact sorted_one ((once_perm (ris_nodup h)).symm.trans p.symm) (ris_le h) (sorted_pair s)

def strD : PyData → Str
  | .str x => x
  | _ => Str.empty
theorem nmD_str {d : PyData} (h : nmD d = true) : d = .str (strD d) := by
  cases d <;> first | rfl | cases h
theorem nms_strs : ∀ {ds : List PyData}, ds.all nmD = true → ds = (ds.map strD).map .str
  | [], _ => rfl
  | d :: ds, h => by
    obtain ⟨a, b⟩ := Bool.and_eq_true_iff.mp (show (nmD d && ds.all nmD) = true from h)
    rw [List.map_cons, List.map_cons, ← nms_strs b, ← nmD_str a]
/-- a datum is a lot -/
def lotD : PyData → Bool
  | .tuple ds => !ds.isEmpty && ds.all nmD && risB (ds.map strD)
  | _ => false
theorem lotD_tup (ds : List PyData) : lotD (.tuple ds) = (!ds.isEmpty && ds.all nmD && risB (ds.map strD)) := rfl
def eqS : PyData → Str → Bool
  | .str y, x => y == x
  | _, _ => false
theorem eqv_str (d : PyData) (x : Str) : PyData.eqv d (.str x) = eqS d x := by
  cases d <;> simp [PyData.eqv, eqS]
theorem eqS_iff {d : PyData} {x : Str} : eqS d x = true ↔ d = .str x := by
  cases d <;> simp [eqS]
theorem eqv_strs : ∀ xs ys : List Str, PyData.eqvAll (xs.map .str) (ys.map .str) = decide (xs = ys)
  | [], [] => by simp [PyData.eqvAll]
  | [], _ :: _ => by simp [PyData.eqvAll]
  | _ :: _, [] => by simp [PyData.eqvAll]
  | x :: xs, y :: ys => by
    rw [List.map_cons, List.map_cons]
    have e : PyData.eqvAll (PyData.str x :: xs.map .str) (PyData.str y :: ys.map .str) = (PyData.eqv (.str x) (.str y) && PyData.eqvAll (xs.map .str) (ys.map .str)) := by simp [PyData.eqvAll]
    rw [e, eqv_strs xs ys, eqv_str, Bool.eq_iff_iff, Bool.and_eq_true, eqS_iff]
    simp
/-- a datum is a statement -/
def stD : PyData → Bool
  | .tuple (.str h :: r) => if h = "lot" then (r.length == 1 && r.all lotD) else if h = "before" then (r.length == 2 && r.all nmD) else (decide (h = "never") && r.isEmpty)
  | _ => false
theorem lv_head {n : Nat} {d : PyData} {r : List PyData} (h : Lv (n + 1) (.tuple (d :: r))) : Lv n d := h.2 d List.mem_cons_self
theorem lv_in {n : Nat} {ds : List PyData} {d : PyData} (h : Lv (n + 1) (.tuple ds)) (m : d ∈ ds) : Lv n d := h.2 d m
theorem lv_lot {n : Nat} {xs : List Str} (h : ∀ x ∈ xs, isNm x = true) (hl : xs.length ≤ 60) : Lv (n + 1) (.tuple (xs.map .str)) :=
  ⟨by rw [List.length_map]; exact hl, fun x hx => by
    obtain ⟨y, hy, rfl⟩ := List.mem_map.mp hx
    exact lv_nm (h y hy)⟩
theorem lv_lotL {n : Nat} {xs : List Str} (h : ∀ x ∈ xs, isNm x = true) (hl : xs.length ≤ 60) : Lv (n + 1) (.list (xs.map .str)) :=
  ⟨by rw [List.length_map]; exact hl, fun x hx => by
    obtain ⟨y, hy, rfl⟩ := List.mem_map.mp hx
    exact lv_nm (h y hy)⟩
theorem scan_small {n : Nat} (h : n ≤ 1000) : n + 1 < scanBound := by
  unfold scanBound
  omega
end Th
namespace Th
open PySem PySem.Spec PyProof.Rows L2
theorem kp {H : Hp} {l q : Addr} {o u : HO} (h : H l = some o) (hq : H q = none) : (upd H q u) l = some o := by
  rw [upd_ne (ne_of_none h hq)]
  exact h
/-- a part of data is data -/
theorem DaAll.cut {K : PySem.W.Frag} {H : Hp} {vs : List V} {ds : List PyData} (h : DaAll K H vs ds) (lo hi : Option Int) : ∃ es, DaAll K H (cutV vs lo hi) es ∧ (∀ e ∈ es, e ∈ ds) ∧ es.length ≤ ds.length := by
  unfold cutV
  refine ⟨_, (h.drop _).take _, fun e he => List.mem_of_mem_drop (List.mem_of_mem_take he), ?_⟩
  rw [List.length_take, List.length_drop]
  omega
theorem lv_snoc {n : Nat} {a b : List PyData} (h : ∀ d ∈ a, Lv n d) (k : ∀ d ∈ b, Lv n d) : ∀ d ∈ a ++ b, Lv n d := fun d hd => by
  rcases List.mem_append.mp hd with z | z
  · exact h d z
  · exact k d z
theorem lv_one {n : Nat} {d : PyData} (h : Lv n d) : ∀ e ∈ [d], Lv n e := fun e he => by
  rw [List.mem_singleton.mp he]
  exact h
theorem cutL {xs : List V} {ds : List PyData} {lo hi : Option Int} (h : xs.length = ds.length) : (cutV xs lo hi).length ≤ ds.length := by
  rw [← h]
  exact cutV_length xs lo hi
theorem cut_strs (zs : List Str) (lo hi : Option Int) : ∃ ws : List Str, cutV (zs.map V.str) lo hi = ws.map V.str ∧ (∀ x ∈ ws, x ∈ zs) ∧ ws.length ≤ zs.length := by
  unfold cutV
  refine ⟨(zs.drop (HT.sIx (zs.map V.str).length 0 lo)).take (HT.sIx (zs.map V.str).length (zs.map V.str).length hi - HT.sIx (zs.map V.str).length 0 lo), ?_, fun x hx => List.mem_of_mem_drop (List.mem_of_mem_take hx), ?_⟩
  · rw [List.map_take, List.map_drop]
  · rw [List.length_take, List.length_drop]
    omega
theorem lv_names {xs : List Str} (h : ∀ x ∈ xs, isNm x = true) (n : Nat) : ∀ d ∈ xs.map PyData.str, Lv n d := fun d hd => by
  obtain ⟨x, hx, rfl⟩ := List.mem_map.mp hd
  exact lv_nm (h x hx)
theorem lv_word (n : Nat) (x : Str) (h : PyData.strOk x = true) (h2 : x.length ≤ 100000) : Lv n (.str x) := by
  cases n <;> exact ⟨h2, h⟩
theorem Lv.ups {n m : Nat} {d : PyData} (h : Lv n d) (k : n ≤ m) : Lv m d := by
  induction k with
  | refl => exact h
  | step _ ih => exact ih.up
end Th
/-! a dict of the text with a few words as keys -/
namespace Th
open PySem PySem.Spec PyProof.Rows L2
/-- what a dict of the text holds at a word -/
def lookE : List (Str × Value) → Str → Option Value
  | [], _ => none
  | (k, v) :: r, z => if k = z then some v else lookE r z
theorem ns_of {K : PySem.W.Frag} {d : Addr} {c : Value} {od : Option Addr} {n : Nat} {sl : Array (Option Value)} : ∀ (es : List DictEntry) (kvs : List (Str × Value)), K.lookup d = some ⟨c, od, .dict es.toArray n, sl⟩ →
    Paired (fun (e : DictEntry) (p : Str × Value) => (∃ t, e.key = .str p.1 t) ∧ e.val = p.2) es kvs → ∀ z : Str, PySem.W.nsIn K d z = some (lookE kvs z) := by
  intro es kvs l p z
  unfold PySem.W.nsIn
  rw [l]
  show (match es.find? (fun e => e.key.isStr z) with | some e => some (some e.val) | none => if es.any (·.refKey) then none else some none) = some (lookE kvs z)
  have hno : es.any (·.refKey) = false := by
    clear l
    induction p with
    | nil => rfl
    | cons h _ ih =>
      obtain ⟨⟨t, e⟩, _⟩ := h
      rw [List.any_cons, ih, Bool.or_false]
      simp only [DictEntry.refKey, e]
  rw [hno]
  clear hno l
  induction p with
  | nil => rfl
  | @cons e q es kvs h _ ih =>
    obtain ⟨⟨t, e1⟩, e2⟩ := h
    obtain ⟨k, v⟩ := q
    rw [List.find?_cons]
    have hs : e.key.isStr z = decide (k = z) := by
      rw [PySem.W.isStr_of, e1]
      show Value.isStrOf z (.str k t) = _
      simp only [Value.isStrOf]
      rw [Bool.eq_iff_iff, beq_iff_eq, decide_eq_true_eq]
    rw [hs]
    unfold lookE
    by_cases hk : k = z
    · rw [decide_eq_true hk, if_pos hk]
      show some (some e.val) = _
      rw [e2]
    · rw [decide_eq_false hk, if_neg hk]
      exact ih
end Th
namespace Th
open PySem PySem.Spec PyProof.Rows L2
def rKd (K : PySem.W.Frag) (d : Addr) : R2 := fun x y H Q => ∃ (z : Str) (u0 : Value) (v0 : V), x = .ref d ∧ y = .str z ∧ PySem.W.nsIn K d z = some (some u0) ∧ RelV v0 u0 ∧ Q v0 H
def rInKd (K : PySem.W.Frag) (d : Addr) : R2 := fun x y H Q => ∃ (z : Str) (r : Option Value), x = .str z ∧ y = .ref d ∧ PySem.W.nsIn K d z = some r ∧ Q (.bl r.isSome) H
theorem ix_kd {X : Cx} {d : Addr} {es : Array DictEntry} {n : Nat} (D : KDict X.K X.w d es n) : IxR X (rKd X.K d) := by
  intro value slice pins s σ H x y v u Q I rx ry h hs
  have key := op_item_kd D pins s σ H x y v u Q I rx ry h
  obtain ⟨z, u0, v0, rfl, rfl, _⟩ := h
  cases rx
  exact tail_any (kd_type D I) PySem.F.slot_dict_getitem.lookup key hs
end Th
/-! a tuple read backwards -/
namespace Th
open PySem PySem.Spec PyProof.Rows L2 HT
section
variable {prog : Program} {w : World} {A : Around} {E : Value → Shared → Prop} {s : Shared}
theorem adj_rev (n : Nat) : Builtin.Slice.sliceAdjust none none (-1) (n : Int) = ((n : Int) - 1, -1) := by
  unfold Builtin.Slice.sliceAdjust
  simp
theorem places_rev (n : Nat) : Builtin.Slice.slicePlaces ((n : Int) - 1) (-1) (-1) = n := by
  unfold Builtin.Slice.slicePlaces
  have h1 : ¬ ((-1 : Int) > 0) := by decide
  rw [if_neg h1]
  by_cases h : (n : Int) - 1 > -1
  · rw [if_pos h, show (- -1 : Int) = 1 by decide, Int.ediv_one]
    omega
  · rw [if_neg h]
    omega
theorem applied_rev {sl : Addr} {vl vu vs : Value} {n : Nat} {Q : Int × Int × Nat → Shared → Prop} (hs : s.heap.IsSliceOf sl vl vu vs) (pl : IsPart vl none) (pu : IsPart vu none) (ps : IsPart vs (some (-1)))
    (h : Q ((n : Int) - 1, -1, n) s) : wpAny (model prog w) A (Builtin.Slice.sliceApplied (.ref sl) (pure (n : Int))) Q E s := by
  obtain ⟨os, hos, hcs, hds⟩ := id hs
  unfold Builtin.Slice.sliceApplied Builtin.Slice.sliceFields
  refine wpAny_bind (wpAny_bind (wpAny_field hos hds (x := vl) rfl (wpAny_bind (wpAny_field hos hds (x := vu) rfl (wpAny_bind (wpAny_field hos hds (x := vs) rfl (wpAny_pure ?_)))))))
  refine wpAny_bind (slicePart_ ps ?_)
  show wpAny _ _ (if ((-1 : Int) == 0) = true then _ else _) _ _ s
  rw [if_neg (by decide)]
  refine wpAny_bind (slicePart_ pl (wpAny_bind (slicePart_ pu (wpAny_bind (wpAny_pure ?_)))))
  show wpAny _ _ (match Builtin.Slice.sliceAdjust none none (-1) (n : Int) with | (lo, hi) => pure (lo, (-1 : Int), Builtin.Slice.slicePlaces lo hi (-1))) _ _ s
  rw [adj_rev n]
  show wpAny _ _ (pure ((n : Int) - 1, (-1 : Int), Builtin.Slice.slicePlaces ((n : Int) - 1) (-1) (-1))) _ _ s
  rw [places_rev]
  exact wpAny_pure h
theorem fm_congr {α β : Type} {f g : α → Option β} : ∀ {l : List α}, (∀ k ∈ l, f k = g k) → l.filterMap f = l.filterMap g
  | [], _ => rfl
  | a :: r, h => by
    rw [List.filterMap_cons, List.filterMap_cons, h a List.mem_cons_self, fm_congr (l := r) fun k hk => h k (List.mem_cons_of_mem _ hk)]
theorem pick_rev (xs : Array Value) : ((List.range xs.size).filterMap fun (k : Nat) => xs[(((xs.size : Int) - 1) + (k : Int) * (-1)).toNat]?).toArray = xs.toList.reverse.toArray := by
  have e : ((List.range xs.size).filterMap fun (k : Nat) => xs[(((xs.size : Int) - 1) + (k : Int) * (-1)).toNat]?) = (List.range xs.size).filterMap ((fun j => xs[j]?) ∘ fun k => xs.size - 1 - k) := by
    refine fm_congr fun k hk => ?_
    have := List.mem_range.mp hk
    have z : (((xs.size : Int) - 1) + (k : Int) * (-1)).toNat = xs.size - 1 - k := by omega
    rw [z]
    rfl
  rw [e, ← List.filterMap_map, PySem.W.krv_range, List.filterMap_reverse, PySem.W.krv_all]
theorem getItem_tuple_rev {t sl : Addr} {items : Array Value} {vl vu vs : Value} {Q : Value → Shared → Prop} (ht : IsTup s.heap t items) (hs : s.heap.IsSliceOf sl vl vu vs) (pl : IsPart vl none) (pu : IsPart vu none) (ps : IsPart vs (some (-1)))
    (h : Q (.ref s.heap.objs.size) { s with heap := s.heap.push { cls := .type "tuple", data := .seq items.toList.reverse.toArray } })
    (hsz : items.size ≤ sizeLine) : wpAny (model prog w) A (getItem (.ref t) (.ref sl)) Q E s := by
  have htake : sizeOk (.seq items.toList.reverse.toArray) := by
    show items.toList.reverse.toArray.size ≤ sizeLine
    rw [List.size_toArray, List.length_reverse, Array.length_toList]
    omega
  obtain ⟨os, hos, hcs, hds⟩ := id hs
  have hTs : s.TypeIs (.ref sl) "slice" := ⟨os, hos, hcs⟩
  unfold getItem
  try with_reducible refine wpAny_holding ?_
  first | refine wpAny_bind (wpAny_pure ?_) | skip
  refine wpAny_bind (wpAny_sequenceKey ht.typeIs (by decide) ?_)
  refine wpAny_bind (wpAny_callSpecial?_slot (name := Str.ofString "__getitem__") ht.typeIs PyProof.Rows.slot_tuple_getitem
    (wpAny_call_entry PyProof.Rows.slot_tuple_getitem ht.typeIs entry_tuple_getitem ?_ (args_tuple_getitem _ _)))
  show wpAny _ _ (Builtin.Tuple.tupleItemsOf (.ref t) >>= _) _ _ s
  refine wpAny_bind (tupleItemsOf_ ht ?_)
  refine wpAny_bind (wpAny_typeOf hTs ?_)
  rw [if_pos (by decide)]
  refine wpAny_bind (applied_rev hs pl pu ps ?_)
  have hno : ¬ ((((items.size : Int) - 1) == 0 && (-1 : Int) == 1 && items.size == items.size) = true) := by
    rw [show ((-1 : Int) == 1) = false by decide, Bool.and_false, Bool.false_and]
    exact Bool.false_ne_true
  show wpAny _ _ (if (((items.size : Int) - 1) == 0 && (-1 : Int) == 1 && items.size == items.size) = true then _ else _) _ _ s
  rw [if_neg hno, pick_rev]
  first
    | exact wpAny_bind (m := Builtin.Tuple.tupleExact _) (wpAny_newObj_type (wpAny_pure ⟨_, rfl, wpAny_pure h⟩) htake)
    | exact wpAny_bind (m := Builtin.Tuple.tupleExact _) (wpAny_newObj_type (wpAny_bind (wpAny_pure (wpAny_pure ⟨_, rfl, wpAny_pure h⟩))) htake)
    | exact wpAny_bind (wpAny_bind (m := Builtin.Tuple.tupleExact _) (wpAny_newObj_type (wpAny_pure (wpAny_pure ⟨_, rfl, wpAny_pure h⟩)) htake))
    | exact wpAny_bind (wpAny_bind (m := Builtin.Tuple.tupleExact _) (wpAny_newObj_type (wpAny_pure ⟨_, rfl, wpAny_pure h⟩) htake))
end
/-- a tuple whose object has no dict -/
def BareT (H : Hp) (a : Addr) (xs : List V) : Prop := ∃ o : Obj, H a = some (.frz o (.tup xs)) ∧ o.dict = none
theorem BareT.sq {K : PySem.W.Frag} {H : Hp} {a : Addr} {xs : List V} (h : BareT H a xs) : SqT K H a xs := by
  obtain ⟨o, e, _⟩ := h
  exact .inl (.inr ⟨o, e⟩)
theorem BareT.to {H H' : Hp} {a : Addr} {xs : List V} (h : BareT H a xs) (s : Same H H') : BareT H' a xs := by
  obtain ⟨o, e, d⟩ := h
  exact ⟨o, s _ _ e, d⟩
theorem bare_ty {K : PySem.W.Frag} {H : Hp} {a : Addr} {xs : List V} (h : BareT H a xs) : TyX K H (.ref a) (.type "tuple") := by
  obtain ⟨o, e, _⟩ := h
  exact .fTuple e
theorem bare_da {K : PySem.W.Frag} {H : Hp} {a : Addr} {xs : List V} {ds : List PyData} (h : BareT H a xs) (r : DaAll K H xs ds) : Da K H (.ref a) (.tuple ds) := .tup h.sq (bare_ty h) r
def rTupIx (K : PySem.W.Frag) : V → List V → Hp → VK → Prop := fun x xs H Q => ∃ p, ∃ ys : List Str, ∃ z j, x = .ref p ∧ xs = [.str z] ∧ SqT K H p (ys.map V.str) ∧ ys[j]? = some z ∧ (∀ m, m < j → ys[m]? ≠ some z) ∧ Q (.int (j : Nat)) H
theorem mt_tupIx {X : Cx} : MtR X "tuple.index" (rTupIx X.K) := mt_tup_index
def tyBare (x : V) (H : Hp) : Prop := ∃ a xs, x = .ref a ∧ BareT H a xs
section
variable {X : Cx}
theorem ty_bare : TyOk X "tuple" tyBare := by
  intro pins σ H s x v I r ty
  obtain ⟨a, xs, rfl, o, e, d⟩ := ty
  cases r
  have z := I.hok a _ e
  obtain ⟨g, _, its, _, o', g', c, _⟩ : ObjOk X.prog X.w H s.heap a (.frz o (.tup xs)) := z
  rw [g] at g'
  cases g'
  refine ⟨⟨o, g, c⟩, fun b e => ?_⟩
  cases e
  exact ⟨o, g, d⟩
theorem call_tuple_bare : CallR X (.type "tuple") (fun xs H Q => ∃ p ys, xs = [.ref p] ∧ SqL X.K H p ys ∧ ∀ l o, H l = none → o.dict = none → Q (.ref l) (upd H l (.frz o (.tup ys)))) := by
  intro pins s σ H xs us Q I r h
  obtain ⟨p, ys, rfl, hq, q⟩ := h
  obtain ⟨u, rfl, rx⟩ := vals1 r
  cases rx
  obtain ⟨its, r', pl, hz⟩ := I.list hq
  have hlen := r'.length
  refine call_tuple_list pl.isList (fun h' kp => ?_) (by simp only [List.size_toArray] <;> omega)
  have I1 : Inv X pins σ H { s with heap := h' } := I.kept (t' := s.toks) kp
  have I2 : Inv X pins σ (upd H h'.objs.size (.frz { cls := .type "tuple", data := .seq its.toArray } (.tup ys))) { s with heap := h'.push { cls := .type "tuple", data := .seq its.toArray } } :=
    I1.laid (t' := s.toks) (fun b o e => Heap.get?_push_of_some _ e) (Nat.le_refl _) (show ObjOk X.prog X.w _ _ _ (.frz { cls := .type "tuple", data := .seq its.toArray } (.tup ys)) from ⟨Heap.get?_push_size _ rfl, hz, its, r', IsTup.new _ _⟩)
  exact ⟨.ref h'.objs.size, _, I2, rfl, q _ _ (I1.hok.fresh (Nat.le_refl _)) rfl⟩
end
section
variable {X : Cx}
/-- a tuple backwards, in a new tuple -/
def tRevT (K : PySem.W.Frag) (te : TE) : TE := fun σ H Q => te σ H fun x H1 => ∃ a xs, x = .ref a ∧ SqT K H1 a xs ∧ ∀ p o, H1 p = none → o.dict = none → Q (.ref p) (upd H1 p (.frz o (.tup xs.reverse)))
theorem pe_revT {e : Expr} {te : TE} {k : Nat} {p1 p2 p3 pos : Pos} (he : PE X e te) : PE X (.Subscript e (.Slice none none (some (.UnaryOp .USub (.Constant (.int 1) k p1) p2)) p3) pos) (tRevT X.K te) := by
  refine ⟨fun pins s σ H Q I h => ?_⟩
  refine Subscript_ (thn (he.run pins s σ H _ I h) fun v s1 ⟨x, H1, I1, r1, q1⟩ => ?_)
  obtain ⟨a, xs, ex, hx, q⟩ := q1
  subst ex
  cases r1
  have hst : PO X (some (.UnaryOp .USub (.Constant (.int 1) k p1) p2)) (tPart (tUn (rU fun i => .int (-i)) (tC (.int 1)))) := po_some (pe_un un_neg pe_int)
  refine wpAny_Slice (thn (po_none.run pins s1 σ H1 (fun o H2 => o = none ∧ H2 = H1) I1 ⟨rfl, rfl⟩) fun vl s2 ⟨l, H2, I2, pl, el, e2⟩ => ?_)
  subst el e2
  refine thn (po_none.run pins s2 σ H2 (fun o H3 => o = none ∧ H3 = H2) I2 ⟨rfl, rfl⟩) fun vu s3 ⟨u, H3, I3, pu, eu, e3⟩ => ?_
  subst eu e3
  refine thn (hst.run pins s3 σ H3 (fun o H4 => o = some (-1) ∧ H4 = H3) I3 ⟨1, rfl, -1, rfl, rfl, rfl⟩) fun vs s4 ⟨o, H4, I4, ps, eo, e4⟩ => ?_
  subst eo e4
  have I5 : Inv X pins σ H4 { s4 with heap := s4.heap.push { cls := .type "slice", data := .fields #[vl, vu, vs] } } := I4.kept (t' := s4.toks) fun b ob q => Heap.get?_push_of_some _ q
  obtain ⟨its, r, ht, hz⟩ := I5.tuple hx
  have hlen : its.toArray.size = xs.length := by rw [List.size_toArray]; exact r.length.symm
  show wpAny (model X.prog X.w) X.A (subscriptTail e (.Slice none none (some (.UnaryOp .USub (.Constant (.int 1) k p1) p2)) p3) (.ref a) (.ref s4.heap.objs.size)) (EP X pins σ Q) X.xe { s4 with heap := s4.heap.push { cls := .type "slice", data := .fields #[vl, vu, vs] } }
  refine tail_any (ops := [.ref a, .ref s4.heap.objs.size]) ht.typeIs PyProof.Rows.slot_tuple_getitem.lookup ?_ (by with_unfolding_all rfl)
  refine getItem_tuple_rev ht (Heap.IsSliceOf.new _ vl vu vs) pl pu ps ?_ (by rw [hlen]; exact hz)
  refine ⟨.ref _, _, I5.laid (t' := s4.toks) (o := .frz { cls := .type "tuple", data := .seq its.toArray.toList.reverse.toArray } (.tup xs.reverse)) (fun b ob q => Heap.get?_push_of_some _ q) (Nat.le_refl _) ?_, rfl, q _ _ (I5.hok.fresh (Nat.le_refl _)) rfl⟩
  exact ⟨Heap.get?_push_size _ rfl, by rw [List.length_reverse]; exact hz, _, r.reverse, IsTup.new _ _⟩
end
end Th
/-! sorted(a tuple of texts) -/
namespace L2
open PySem PySem.Spec PyProof.Rows
section
variable {P : Program} {w : World} {A : Around} {E : Value → Shared → Prop} {s : Shared}
theorem tt_collect {t : Addr} {vs : List Value} {Q : List Value → Shared → Prop} (ht : IsTup s.heap t vs.toArray) (hz : vs.length ≤ sizeLine)
    (fin : ∀ s1 : Shared, (∀ b o, s.heap.get? b = some o → s1.heap.get? b = some o) → s1.gens = s.gens → s1.os = s.os → s.heap.objs.size ≤ s1.heap.objs.size → Q vs s1) :
    wpAny (model P w) A (collect (.ref t)) Q E s := by
  obtain ⟨o, ho, hc, n, hd⟩ := ht
  have hn : (s.heap.push (seqObj "list" #[] 0)).get? s.heap.objs.size = some (seqObj "list" #[] 0) := Heap.get?_push_size _ rfl
  unfold collect
  refine wpAny_bind (wpAny_runValue (codeAny_builtin entry_proto_collect' ?_))
  show wpAny _ _ (do again (.builtin "list.__iadd__" ⟨[← newList [], .ref t], []⟩)) _ _ s
  refine wpAny_bind (wpAny_newList (wpAny_pure ⟨Code.quiet_builtin _ (by decide +kernel), codeAny_builtin entry_list_iadd' ?_⟩))
  show wpAny _ _ (Builtin.List.listExtendWith (.ref s.heap.objs.size) (.ref t) (.ref s.heap.objs.size)) _ _ { s with heap := s.heap.push (seqObj "list" #[] 0) }
  have ho' : (s.heap.push (seqObj "list" #[] 0)).get? t = some o := Heap.get?_push_of_some _ ho
  unfold Builtin.List.listExtendWith
  refine wpAny_bind (wpAny_typeOf (T := "tuple") ⟨o, ho', hc⟩ ?_)
  rw [if_pos (by simp)]
  refine wpAny_bind (listItems_at ho' hd (wpAny_bind (listItems_at (xs := #[]) (n := 0) hn rfl ?_)))
  rw [if_neg (by simp)]
  refine wpAny_bind (listUpdate_at (xs := #[]) (n := 0) hn rfl ?_ (Nat.zero_le _) (by rw [Array.size_append, List.size_toArray]; show 0 + vs.length ≤ sizeLine + 1; omega))
  refine wpAny_pure ?_
  show wpAny (model P w) A (do
      let o ← load s.heap.objs.size
      match o.data with
      | .seq xs _ => pure xs.toList
      | _ => unsupported "internal:collect") Q E { s with heap := (s.heap.push (seqObj "list" #[] 0)).update s.heap.objs.size (Obj.mapSeq (· ++ vs.toArray)) }
  refine wpAny_bind (wpAny_load (get?_update_seq hn _) ?_)
  show wpAny _ _ (pure ((#[] : Array Value) ++ vs.toArray).toList) Q E _
  rw [show ((#[] : Array Value) ++ vs.toArray).toList = vs by simp]
  refine wpAny_pure (fin _ (fun b u hb => ?_) rfl rfl ?_)
  · have lt := Heap.lt_size hb
    show ((s.heap.push (seqObj "list" #[] 0)).update s.heap.objs.size (Obj.mapSeq (· ++ vs.toArray))).get? b = some u
    rw [Heap.get?_update_ne _ _ _ _ (Nat.ne_of_lt lt)]
    exact Heap.get?_push_of_some _ hb
  · show s.heap.objs.size ≤ ((s.heap.push (seqObj "list" #[] 0)).update s.heap.objs.size (Obj.mapSeq (· ++ vs.toArray))).objs.size
    rw [Heap.size_update, size_push']
    exact Nat.le_succ _
theorem tt_sorted {a : Addr} {vs : List Value} {l : List Str} {Q : Value → Shared → Prop} (ht : IsTup s.heap a vs.toArray) (hS : StrsAre vs l) (h64 : vs.length < 64)
    (fin : ∀ s' p (out : Array Value) (c : Nat) (ys : List Str), (∀ b o, s.heap.get? b = some o → s'.heap.get? b = some o) → s'.gens = s.gens → s'.os = s.os → s.heap.objs.size ≤ p →
      s'.heap.get? p = some (seqObj "list" out c) → StrsAre out.toList ys → ys.Perm l → sortedS ys = true → Q (.ref p) s') :
    wpAny (model P w) A (call (.builtin "sorted") [.ref a]) Q E s := by
  have hz : vs.length ≤ sizeLine := by rw [sizeLine_eq]; omega
  refine Calls.call_function_entry kind_sorted plain_sorted entry_sorted (args_sorted1 _) ?_
  unfold Builtin.«sorted»
  refine wpAny_bind (m := checkCount "sorted" 1 1 _) (wpAny_pure ?_)
  refine wpAny_bind (tt_collect ht hz fun s1 k1 g1 o1 hz1 => ?_)
  refine wpAny_bind (wpAny_newList ?_ hz)
  have hoL : (s1.heap.push (seqObj "list" vs.toArray 0)).get? s1.heap.objs.size = some (seqObj "list" vs.toArray 0) := Heap.get?_push_size _ rfl
  refine wpAny_bind (wpAny_holding (wpAny_call_entry slot_list_sort ⟨_, hoL, rfl⟩ entry_list_sort
    (list_sort_treeK strKind_oneLt hoL hS.keysOf (fun v₁ v₂ rest e => keyKind_strs (by rw [← e]; exact hS)) h64 fun st' a1 a2 => ⟨_, rfl, ?_⟩) (args_list_sort _)))
  obtain ⟨ys, b1, b2, b3⟩ := sorted_out_str hS a1 a2
  obtain ⟨c, hc⟩ := sortedHeap_at (vs := vs) (out := (arrOf st').map (·.2)) hoL
  refine wpAny_pure ⟨_, rfl, fin _ s1.heap.objs.size _ c ys (fun b u e => ?_) g1 o1 hz1 hc b1 b2 b3⟩
  have q := k1 b u e
  have hlt := Heap.lt_size q
  show (sortedHeap (s1.heap.push (seqObj "list" vs.toArray 0)) s1.heap.objs.size vs _).get? b = some u
  rw [sortedHeap_old (Nat.ne_of_lt hlt) (by rw [size_push']; exact Nat.lt_succ_of_lt hlt)]
  exact Heap.get?_push_of_some _ q
end
section
variable {X : Cx}
def rSortedTT (K : PySem.W.Frag) : List V → Hp → VK → Prop := fun vs H Q => ∃ (a : Addr) (l : List Str), vs = [V.ref a] ∧ SqT K H a (l.map V.str) ∧ l.length < 64 ∧
  ∀ (ys : List Str) (p : Addr), ys.Perm l → sortedS ys = true → H p = none → Q (.ref p) (upd H p (.lst (ys.map V.str)))
theorem cr_sortedTT : CallR X (.builtin "sorted") (rSortedTT X.K) := by
  intro pins s σ H vs us Q I r h
  obtain ⟨a, l, rfl, ha, h64, q⟩ := h
  obtain ⟨its, rv, ht, hz⟩ := I.tuple ha
  rw [Vals.ref1 r]
  have hl := rv.length
  rw [List.length_map] at hl
  refine tt_sorted ht rv.strs (by rw [← hl]; exact h64) fun s' p out c ys k g o hp hg hi hs hm => ?_
  have hlen : (ys.map V.str).length ≤ sizeLine := by rw [List.length_map, hs.length_eq, sizeLine_eq]; omega
  have hn : H p = none := I.hok.fresh hp
  have J : Inv X pins σ (upd H p (.lst (ys.map V.str))) { s with heap := s'.heap, gens := s'.gens, drawn := s'.drawn, toks := s'.toks } :=
    I.call (ch := []) (Un.laid k hp hn) (I.hok.laid k hp ⟨hlen, out.toList, c, vals_of_strs hi, hg⟩) (by rw [g]; exact I.bare) (fun _ z => nomatch z)
  have e : s' = { s with heap := s'.heap, gens := s'.gens, drawn := s'.drawn, toks := s'.toks } := by
    cases s'
    cases s
    cases o
    rfl
  rw [e]
  exact ⟨.ref p, _, J, rfl, q ys p hs hm hn⟩
end
end L2
namespace Th
open PySem PySem.Spec PyProof.Rows L2
def topS (i : Nat) : Stmt := PySem.Challenge.pw_threeorders_k14_statements_judged.main.body.getD i (.Pass ⟨0, 0, 0, 0⟩)
end Th
namespace Th
open PySem PySem.Spec PyProof.Rows L2
abbrev s_l_start : Stmt := topS 13
theorem sc_l_start : FnScope ["_law_script", "_law_own", "_law_mixed", "_law_cell"] ["_law_script", "_law_own"] (defScope s_l_start) := ⟨rfl, rfl, rfl, by decide +kernel, rfl, by decide +kernel, by decide +kernel⟩
/-- the list that draws is made -/
def spStart (K : PySem.W.Frag) : Sp := fun vs H Q _ => ∃ (a : Addr) (ns : List Int) (own : Int), vs = [.ref a, .int own] ∧ SqL K H a (ns.map V.int) ∧ ns.length ≤ 63 ∧ 0 ≤ own ∧ own < 2147483563 ∧
  ∀ H' (D : DS), Same H H' → H D.p = none → H D.l = none → Drw D H' → Q (.ref D.p) H'
section
variable {P : Program} {w : World} {K : PySem.W.Frag} {mg : Str → Option Value} {base : Heap}
theorem has_l_start (Z : Zs mg) (A : At K mg "_law_start" s_l_start ["_law_script", "_law_own"]) : Has P w K mg base "_law_start" s_l_start 1 ["_law_script", "_law_own"] (spStart K) := by
  obtain ⟨f, fd, F, mg1, bd⟩ := A
  refine ⟨f, fd, ?_, mg1, F.kp, bd, F⟩
  refine F.ok sc_l_start (fun vs H Q E h => ?_) (fun cdv A outer s H vs Q E hr h => ?_)
  · obtain ⟨a, ns, own, rfl, _⟩ := h
    rfl
  · obtain ⟨a, ns, own, rfl, hS, hlen, ho0, ho1, q⟩ := h
    refine ⟨_, (pss_cons (ps_set (i := 2) sc_l_start.nd rfl (Or.inl rfl) (pv 1)) (pss_cons (ps_for PassesOwn.never rfl (pi_list (pe_slice sl_list (pv 0) po_none (po_some pe_int))) (pg_name (i := 3) sc_l_start.nd rfl (Or.inl rfl)) (pss_one (ps_set (i := 2) sc_l_start.nd rfl (Or.inl rfl) (pe_op op_mod (pe_callTy call_int1 (by rfl) Z.int_ (by decide +kernel) (pa_cons (pe_op op_add (pe_op op_add (pe_op op_mul (pv 2) pe_int) (pe_op op_mod (pe_callTy call_int1 (by rfl) Z.int_ (by decide +kernel) (pa_cons (pv 3) pa_nil)) pe_int)) pe_int) pa_nil)) pe_int)))) (pss_one (ps_ret (pe_lst (pa_cons (pe_lc (own := [("_law_cell", 3)]) (g := gName 3) (by rfl) sc_l_start.nd (pi_list (pe_slice sl_list (pv 0) po_none (po_some pe_int))) (blkOk_by (own := [("_law_cell", 3)]) (N := ["_law_script", "_law_own", "_law_mixed", "_law_cell"]) (sc := defScope s_l_start) (by decide +kernel)) (fun _ _ _ _ _ => pg_name (i := 3) sc_l_start.nd rfl (Or.inl rfl)) (fun _ _ _ _ _ => pts_nil) (fun _ _ _ _ _ => (pe_callTy call_int1 (by rfl) Z.int_ (by decide +kernel) (pa_cons (pv 3) pa_nil)))) (pa_cons pe_int (pa_cons pe_int (pa_cons (pv 2) (pa_cons pe_int pa_nil)))))))))), ?_⟩
    have hl : (ns.map V.int).length ≤ 63 := by rw [List.length_map]; exact hlen
    -- the first number, then a turn for each cell
    refine ⟨_, rfl, _, rfl, 63, rfl, a, ns.map V.int, rfl, hS, fun c nc => ?_⟩
    rw [cut_none _ hl]
    have s1 : Same H (upd H c (.lst (ns.map V.int))) := same_new nc
    refine ⟨c, rfl, ⟨ns.map V.int, .inl (.inl upd_same)⟩, for_list (K := K) (a := c) (xs := ns.map V.int) (fun i σ H2 => ∃ (m : Int) (y : Option V), σ = [some (.ref a), some (.int own), some (.int m), y] ∧ Same H H2 ∧ H2 c = some (.lst (ns.map V.int)) ∧ 0 ≤ m ∧ m < 2147483563)
      ⟨own, none, rfl, s1, upd_same, ho0, ho1⟩ (fun i σ H2 _ ⟨_, _, _, _, e, _⟩ => .inl (.inl e)) ?_ ?_⟩
    · rintro i y σ H2 hi ⟨m, y', rfl, s2, e2, m0, m1⟩
      obtain ⟨z, _, rfl⟩ := getmap hi
      refine ⟨_, rfl, _, _, rfl, rfl, .inl ⟨by omega, by omega⟩, _, rfl, .inl ⟨_, rfl, _, _, rfl, rfl, (by show (0 : Int) < 2147483549; decide), _, _, rfl, rfl, _, _, rfl, rfl, .inl ⟨_, rfl, _, _, rfl, rfl, (by show (0 : Int) < 2147483563; decide), ?_⟩⟩⟩
      exact ⟨_, _, rfl, s2, e2, Int.emod_nonneg _ (by decide), Int.emod_lt_of_pos _ (by decide)⟩
    · rintro σ H2 ⟨m, y', rfl, s2, e2, m0, m1⟩
      -- the list's copy, and the list that draws
      refine ⟨_, rfl, 63, rfl, a, ns.map V.int, rfl, s2.seq hS, fun c2 nc2 => ?_⟩
      rw [cut_none _ hl]
      have s3 : Same H (upd H2 c2 (.lst (ns.map V.int))) := s2.trans (same_new nc2)
      refine ⟨c2, rfl, ⟨_, .inl (.inl upd_same)⟩, fun l nl => ?_⟩
      have ncl : c2 ≠ l := fun e => by rw [← e, upd_same] at nl; cases nl
      refine lc_list (K := K) (a := c2) (xs := ns.map V.int) (fun i H3 => Same H H3 ∧ H3 c2 = some (.lst (ns.map V.int)) ∧ H3 l = some (.lst ((ns.take i).map V.int)))
        ⟨s3.trans (same_new nl), by rw [upd_ne ncl]; exact upd_same, upd_same⟩ (fun i H3 _ ⟨_, e, _⟩ => .inl (.inl e)) ?_ ?_
      · rintro i y H3 hi ⟨s4, e4, e5⟩
        obtain ⟨z, hz, rfl⟩ := getmap hi
        have hz' := lt_of_get hz
        refine ⟨rfl, _, rfl, .inl ⟨_, rfl, _, e5, slineL (by rw [List.length_map, List.length_take]; omega), ?_⟩⟩
        refine ⟨same_mut s4 (s3.free nl), by rw [upd_ne ncl]; exact e4, ?_⟩
        rw [upd_same, take_succ_map hz]
      · rintro H3 ⟨s4, e4, e5⟩
        rw [List.length_map, List.take_length] at e5
        refine ⟨_, rfl, (by show 5 ≤ sizeLine; decide), fun p np => ?_⟩
        refine q _ ⟨p, l, ns⟩ (s4.trans (same_new np)) (s4.free np) (s3.free nl) ⟨ne_of_none e5 np, ?_, hlen, 0, 0, m, 0, upd_same, by decide, by decide, m0, by omega, by decide⟩
        rw [upd_ne (ne_of_none e5 np)]
        exact e5
end
end Th
namespace Th
open PySem PySem.Spec PyProof.Rows L2
abbrev s_l_draw : Stmt := topS 14
theorem sc_l_draw : FnScope ["_law_state", "_law_many", "_law_cell", "_law_digit", "_law_base"] ["_law_state", "_law_many"] (defScope s_l_draw) := ⟨rfl, rfl, rfl, by decide +kernel, rfl, by decide +kernel, by decide +kernel⟩
/-- a number below n is drawn -/
def spDraw : Sp := fun vs H Q _ => ∃ (D : DS) (n : Int), vs = [.ref D.p, .int n] ∧ Drw D H ∧ 0 < n ∧ n < 1073741824 ∧ ∀ (r : Int) H', 0 ≤ r → r < n → Go D H H' → Q (.int r) H'
/-- the list that draws holds other numbers -/
theorem Go.put {D : DS} {H : Hp} (ne : D.l ≠ D.p) (sc : H D.l = some (.lst (D.ns.map V.int))) (few : D.ns.length ≤ 63) {xs : List V} (st : H D.p = some (.lst xs)) {H' : Hp} {i v m c : Int} (e : H' = upd H D.p (.lst [.ref D.l, .int i, .int v, .int m, .int c]))
    (hi : 0 ≤ i) (hv : 0 ≤ v) (m0 : 0 ≤ m) (m1 : m < 2147483648) (hc : 0 ≤ c) : Go D H H' := by
  subst e
  refine ⟨fun a o h => ?_, ne, ?_, few, i, v, m, c, upd_same, hi, hv, m0, m1, hc⟩
  · obtain ⟨z, h⟩ := hid_some h
    rw [hid_ne z, upd_ne z]
    exact h
  · rw [upd_ne ne]
    exact sc
section
variable {P : Program} {w : World} {K : PySem.W.Frag} {mg : Str → Option Value} {base : Heap}
theorem has_l_draw (Z : Zs mg) (A : At K mg "_law_draw" s_l_draw ["_law_state", "_law_many"]) : Has P w K mg base "_law_draw" s_l_draw 1 ["_law_state", "_law_many"] (spDraw) := by
  obtain ⟨f, fd, F, mg1, bd⟩ := A
  refine ⟨f, fd, ?_, mg1, F.kp, bd, F⟩
  refine F.ok sc_l_draw (fun vs H Q E h => ?_) (fun cdv A outer s H vs Q E hr h => ?_)
  · obtain ⟨D, n, rfl, _⟩ := h
    rfl
  · obtain ⟨D, n, rfl, d, n0, n1, q⟩ := h
    obtain ⟨ne, sc, few, i, v, m, c, st, hi, hv, m0, m1, hc⟩ := id d
    refine ⟨_, (C8.pss_cut (ps_if (PW.pt (pw_and (pt_cmpR op_eq (pe_ix ix_list (pv 0) pe_int (fun _ _ => rfl)) pe_int (nomark _)) (pw_and1 (pt_cmpR op_lt (pe_ix ix_list (pv 0) pe_int (fun _ _ => rfl)) (pe_callB call_len_seq (by rfl) Z.len_ (by decide +kernel) (pa_cons (pe_ix ix_list (pv 0) pe_int (fun _ _ => rfl)) pa_nil)) (nomark _))))) (pss_cons (ps_set (i := 2) sc_l_draw.nd rfl (Or.inl rfl) (pe_ix ix_list (pe_ix ix_list (pv 0) pe_int (fun _ _ => rfl)) (pe_ix ix_list (pv 0) pe_int (fun _ _ => rfl)) (fun _ _ => rfl))) (pss_cons (ps_asg (pe_op op_add (pe_ix ix_list (pv 0) pe_int (fun _ _ => rfl)) pe_int) (pg_sub (pv 0) pe_int set_list)) (pss_one (ps_if (pt_cmpR op_ge (pe_callB call_abs (by rfl) Z.abs_ (by decide +kernel) (pa_cons (pv 2) pa_nil)) (pe_op op_pow pe_int pe_int) (nomark _)) (pss_one (ps_asg (pe_callB call_abs (by rfl) Z.abs_ (by decide +kernel) (pa_cons (pv 2) pa_nil)) (pg_sub (pv 0) pe_int set_list))) pss_nil)))) pss_nil) (pss_cons (ps_if (pt_cmpR op_gt (pe_ix ix_list (pv 0) pe_int (fun _ _ => rfl)) pe_int (nomark _)) (pss_cons (ps_set (i := 3) sc_l_draw.nd rfl (Or.inl rfl) (pe_op op_mod (pe_callTy call_int1 (by rfl) Z.int_ (by decide +kernel) (pa_cons (pe_ix ix_list (pv 0) pe_int (fun _ _ => rfl)) pa_nil)) (pv 1))) (pss_cons (ps_asg (pe_op op_fdiv (pe_callTy call_int1 (by rfl) Z.int_ (by decide +kernel) (pa_cons (pe_ix ix_list (pv 0) pe_int (fun _ _ => rfl)) pa_nil)) (pv 1)) (pg_sub (pv 0) pe_int set_list)) (pss_one (ps_ret (pv 3))))) pss_nil) (pss_cons (ps_asg (pe_op op_add (pe_ix ix_list (pv 0) pe_int (fun _ _ => rfl)) pe_int) (pg_sub (pv 0) pe_int set_list)) (pss_cons (ps_set (i := 4) sc_l_draw.nd rfl (Or.inl rfl) (pe_op op_mod (pe_callTy call_int1 (by rfl) Z.int_ (by decide +kernel) (pa_cons (pe_op op_add (pe_ix ix_list (pv 0) pe_int (fun _ _ => rfl)) (pe_op op_mul (pe_ix ix_list (pv 0) pe_int (fun _ _ => rfl)) pe_int)) pa_nil)) pe_int)) (pss_cons (ps_asg (pe_op op_mod (pe_callTy call_int1 (by rfl) Z.int_ (by decide +kernel) (pa_cons (pe_op op_add (pe_op op_add (pe_op op_pow (pv 4) pe_int) (pe_op op_mul pe_int (pv 4))) pe_int) pa_nil)) pe_int) (pg_sub (pv 0) pe_int set_list)) (pss_one (ps_ret (pe_op op_mod (pe_callTy call_int1 (by rfl) Z.int_ (by decide +kernel) (pa_cons (pe_op op_add (pe_op op_fdiv (pe_ix ix_list (pv 0) pe_int (fun _ _ => rfl)) pe_int) (pe_op op_mul (pe_op op_mod (pe_callTy call_int1 (by rfl) Z.int_ (by decide +kernel) (pa_cons (pe_ix ix_list (pv 0) pe_int (fun _ _ => rfl)) pa_nil)) pe_int) pe_int)) pa_nil)) (pv 1))))))))), ?_⟩
    have ix0 : ∀ i v m c : Int, atI [V.ref D.l, .int i, .int v, .int m, .int c] 0 = some (.ref D.l) := fun _ _ _ _ => rfl
    have ix1 : ∀ i v m c : Int, atI [V.ref D.l, .int i, .int v, .int m, .int c] 1 = some (.int i) := fun _ _ _ _ => rfl
    have ix2 : ∀ i v m c : Int, atI [V.ref D.l, .int i, .int v, .int m, .int c] 2 = some (.int v) := fun _ _ _ _ => rfl
    have ix3 : ∀ i v m c : Int, atI [V.ref D.l, .int i, .int v, .int m, .int c] 3 = some (.int m) := fun _ _ _ _ => rfl
    have ix4 : ∀ i v m c : Int, atI [V.ref D.l, .int i, .int v, .int m, .int c] 4 = some (.int c) := fun _ _ _ _ => rfl
    refine ⟨fun σ H1 => ∃ (i v : Int) (y : Option V), σ = [some (.ref D.p), some (.int n), y, none, none] ∧ H1 D.p = some (.lst [.ref D.l, .int i, .int v, .int m, .int c]) ∧ H1 D.l = some (.lst (D.ns.map V.int)) ∧ Go D H H1 ∧ 0 ≤ i ∧ 0 ≤ v, ?_, ?_⟩
    · -- a cell of the script is taken, or not
      have stay : ∃ (i v : Int) (y : Option V), [some (V.ref D.p), some (V.int n), none, none, none] = [some (.ref D.p), some (.int n), y, none, none] ∧ H D.p = some (.lst [.ref D.l, .int i, .int v, .int m, .int c]) ∧ H D.l = some (.lst (D.ns.map V.int)) ∧ Go D H H ∧ 0 ≤ i ∧ 0 ≤ v :=
        ⟨i, v, none, rfl, st, sc, .refl d, hi, hv⟩
      refine ⟨_, rfl, D.p, _, _, _, rfl, rfl, .inl (.inl st), ix2 _ _ _ _, rfl, _, rfl, ?_⟩
      refine ite2 (fun hv0 => ?_) (fun hv0 => iteF stay)
      refine ⟨_, rfl, D.p, _, _, _, rfl, rfl, .inl (.inl st), ix1 _ _ _ _, _, rfl, D.p, _, _, _, rfl, rfl, .inl (.inl st), ix0 _ _ _ _, D.l, _, rfl, .inl (.inl (.inl sc)), _, _, rfl, rfl, _, rfl, ?_⟩
      refine ite2 (fun hi1 => ?_) (fun hi1 => stay)
      have hi2 : i < D.ns.length := by
        have := of_decide_eq_true hi1
        rw [List.length_map] at this
        exact this
      obtain ⟨z, hz⟩ : ∃ z, D.ns[i.toNat]? = some z := ⟨_, List.getElem?_eq_getElem (by omega)⟩
      -- cell = state[0][state[1]]
      refine ⟨_, rfl, D.p, _, _, _, rfl, rfl, .inl (.inl st), ix0 _ _ _ _, _, rfl, D.p, _, _, _, rfl, rfl, .inl (.inl st), ix1 _ _ _ _, D.l, _, _, _, rfl, rfl, .inl (.inl sc), atI_of hi (by rw [List.getElem?_map, hz]; rfl), ?_⟩
      -- state[1] = state[1] + 1
      refine ⟨_, rfl, D.p, _, _, _, rfl, rfl, .inl (.inl st), ix1 _ _ _ _, _, _, rfl, rfl, _, rfl, D.p, _, _, 1, rfl, rfl, st, rfl, ?_⟩
      have g1 : Go D H (upd H D.p (.lst [V.ref D.l, .int (i + 1), .int v, .int m, .int c])) := Go.put ne sc few st rfl (by omega) hv m0 m1 hc
      have e1 : (upd H D.p (.lst [V.ref D.l, .int (i + 1), .int v, .int m, .int c])) D.l = some (.lst (D.ns.map V.int)) := by rw [upd_ne ne]; exact sc
      -- if abs(cell) is great
      refine ⟨_, rfl, _, rfl, _, _, rfl, rfl, ⟨by decide, by decide, by decide⟩, _, _, rfl, rfl, _, rfl, ?_⟩
      refine ite2 (fun hb => ?_) (fun hb => ?_)
      · refine ⟨_, rfl, _, rfl, _, rfl, D.p, _, _, 2, rfl, rfl, upd_same, rfl, ?_⟩
        rw [upd_upd]
        have hz0 : 0 ≤ (if z < 0 then -z else z) := by split <;> omega
        exact ⟨i + 1, _, _, rfl, upd_same, by rw [upd_ne ne]; exact sc, Go.put ne sc few st rfl (by omega) hz0 m0 m1 hc, by omega, hz0⟩
      · exact ⟨i + 1, v, _, rfl, upd_same, e1, g1, by omega, hv⟩
    · -- a digit of the great number, or a fresh one
      rintro σ H1 ⟨i, v, y, rfl, st, sc, g, hi, hv⟩
      refine ⟨_, rfl, D.p, _, _, _, rfl, rfl, .inl (.inl st), ix2 _ _ _ _, _, _, rfl, rfl, _, rfl, ?_⟩
      refine ite2 (fun hv0 => ?_) (fun hv0 => ?_)
      · refine ⟨_, rfl, D.p, _, _, _, rfl, rfl, .inl (.inl st), ix2 _ _ _ _, .inl ⟨_, rfl, _, rfl, _, _, rfl, rfl, n0, ?_⟩⟩
        refine ⟨_, rfl, D.p, _, _, _, rfl, rfl, .inl (.inl st), ix2 _ _ _ _, .inl ⟨_, rfl, _, rfl, _, _, rfl, rfl, ⟨n0, n1⟩, _, rfl, D.p, _, _, 2, rfl, rfl, st, rfl, ?_⟩⟩
        refine ⟨_, rfl, ?_⟩
        exact q _ _ (Int.emod_nonneg _ (by omega)) (Int.emod_lt_of_pos _ n0) (g.trans (Go.put ne sc few st rfl hi (Int.ediv_nonneg hv (by omega)) m0 m1 hc))
      · -- state[4] = state[4] + 1
        refine ⟨_, rfl, D.p, _, _, _, rfl, rfl, .inl (.inl st), ix4 _ _ _ _, _, _, rfl, rfl, _, rfl, D.p, _, _, 4, rfl, rfl, st, rfl, ?_⟩
        have st2 : (upd H1 D.p (.lst [V.ref D.l, .int i, .int v, .int m, .int (c + 1)])) D.p = some (.lst [V.ref D.l, .int i, .int v, .int m, .int (c + 1)]) := upd_same
        refine ⟨_, rfl, D.p, _, _, _, rfl, rfl, .inl (.inl st2), ix3 _ _ _ _, _, rfl, D.p, _, _, _, rfl, rfl, .inl (.inl st2), ix4 _ _ _ _, _, _, rfl, rfl, .inr ⟨by decide, by decide⟩, _, _, rfl, rfl, .inl ⟨_, rfl, _, _, rfl, rfl, (by show (0 : Int) < 2147483563; decide), ?_⟩⟩
        refine ⟨_, rfl, _, _, rfl, rfl, ⟨by decide, by decide, by omega⟩, _, rfl, _, _, rfl, rfl, .inl ⟨by decide, by decide⟩, _, _, rfl, rfl, _, _, rfl, rfl, .inl ⟨_, rfl, _, _, rfl, rfl, (by show (0 : Int) < 2147483563; decide), _, rfl, D.p, _, _, 3, rfl, rfl, st2, rfl, ?_⟩⟩
        rw [upd_upd]
        have st3 : ∀ r : Int, (upd H1 D.p (.lst [V.ref D.l, .int i, .int v, .int r, .int (c + 1)])) D.p = some (.lst [V.ref D.l, .int i, .int v, .int r, .int (c + 1)]) := fun r => upd_same
        refine ⟨_, rfl, D.p, _, _, _, rfl, rfl, .inl (.inl (st3 _)), ix3 _ _ _ _, _, _, rfl, rfl, ⟨by decide, by decide⟩, _, rfl, D.p, _, _, _, rfl, rfl, .inl (.inl (st3 _)), ix3 _ _ _ _, .inl ⟨_, rfl, _, _, rfl, rfl, (by show (0 : Int) < 6047; decide), _, _, rfl, rfl, .inr ⟨by decide, by decide⟩, _, _, rfl, rfl, .inl ⟨_, rfl, _, rfl, _, _, rfl, rfl, n0, ?_⟩⟩⟩
        exact q _ _ (Int.emod_nonneg _ (by omega)) (Int.emod_lt_of_pos _ n0) (g.trans (Go.put ne sc few st rfl hi hv (Int.emod_nonneg _ (by decide)) (Int.lt_trans (Int.emod_lt_of_pos (b := 2147483563) _ (by decide)) (by decide)) (by omega)))
end
end Th
namespace Th
open PySem PySem.Spec PyProof.Rows L2
abbrev s_l_pick : Stmt := topS 15
theorem sc_l_pick : FnScope ["_law_state", "_law_pool"] ["_law_state", "_law_pool"] (defScope s_l_pick) := ⟨rfl, rfl, rfl, by decide +kernel, rfl, by decide +kernel, by decide +kernel⟩
/-- one of the things of a list -/
def spPick (K : PySem.W.Frag) : Sp := fun vs H Q _ => ∃ (D : DS) (q : Addr) (xs : List V), vs = [.ref D.p, .ref q] ∧ Drw D H ∧ SqL K (hid D.p H) q xs ∧ 0 < xs.length ∧ xs.length ≤ 1000 ∧ ∀ (i : Nat) (v : V) H', xs[i]? = some v → Go D H H' → Q v H'
section
variable {P : Program} {w : World} {K : PySem.W.Frag} {mg : Str → Option Value} {base : Heap}
theorem has_l_pick (Z : Zs mg) (A : At K mg "_law_pick" s_l_pick ["_law_state", "_law_pool"]) (h_l_draw : Has P w K mg base "_law_draw" s_l_draw 1 ["_law_state", "_law_many"] (spDraw)) : Has P w K mg base "_law_pick" s_l_pick 2 ["_law_state", "_law_pool"] (spPick K) := by
  obtain ⟨f, fd, F, mg1, bd⟩ := A
  obtain ⟨f_l_draw, fd_l_draw, G_l_draw, m_l_draw, k_l_draw, b_l_draw, F_l_draw⟩ := h_l_draw
  refine ⟨f, fd, ?_, mg1, F.kp, bd, F⟩
  refine F.ok sc_l_pick (fun vs H Q E h => ?_) (fun cdv A outer s H vs Q E hr h => ?_)
  · obtain ⟨D, p, xs, rfl, _⟩ := h
    rfl
  · obtain ⟨D, p, xs, rfl, d, hS, h0, h1, q⟩ := h
    refine ⟨_, (pss_one (ps_ret (pe_ix ix_list (pv 1) (pe_call G_l_draw (hr.mono (by decide)) (by rfl) m_l_draw k_l_draw b_l_draw .nil pass0 (pa_cons (pv 0) (pa_cons (pe_callB call_len_seq (by rfl) Z.len_ (by decide +kernel) (pa_cons (pv 1) pa_nil)) pa_nil))) (fun _ _ => rfl)))), ?_⟩
    have hA : SqL K H p xs := hid_same.seq hS
    refine ⟨_, rfl, _, rfl, _, rfl, p, xs, rfl, .inl hA, D, _, rfl, d, by omega, by omega, fun r H' r0 r1 g => ?_⟩
    obtain ⟨v, hv⟩ : ∃ v, xs[r.toNat]? = some v := ⟨_, List.getElem?_eq_getElem (by omega)⟩
    exact ⟨p, xs, r, v, rfl, rfl, hid_same.seq (g.sm.seq hS), atI_of r0 hv, q _ v H' hv g⟩
end
end Th
namespace Th
open PySem PySem.Spec PyProof.Rows L2
abbrev s_l_letters : Stmt := topS 17
theorem sc_l_letters : FnScope [] [] (defScope s_l_letters) := ⟨rfl, rfl, rfl, by decide +kernel, rfl, by decide +kernel, by decide +kernel⟩
def spLetters : Sp := fun vs H Q _ => vs = [] ∧ Q (.str abc) H
section
variable {P : Program} {w : World} {K : PySem.W.Frag} {mg : Str → Option Value} {base : Heap}
theorem has_l_letters (Z : Zs mg) (A : At K mg "_law_letters" s_l_letters []) : Has P w K mg base "_law_letters" s_l_letters 1 [] (spLetters) := by
  obtain ⟨f, fd, F, mg1, bd⟩ := A
  refine ⟨f, fd, ?_, mg1, F.kp, bd, F⟩
  refine F.ok sc_l_letters (fun vs H Q E h => ?_) (fun cdv A outer s H vs Q E hr h => ?_)
  · obtain ⟨rfl, _⟩ := h
    rfl
  · obtain ⟨rfl, q⟩ := h
    exact ⟨_, (pss_one (ps_ret pe_str)), q⟩
end
end Th
namespace Th
open PySem PySem.Spec PyProof.Rows L2
abbrev s_l_word : Stmt := topS 18
theorem sc_l_word : FnScope ["_law_state", "_law_longest", "_law_k"] ["_law_state", "_law_longest"] (defScope s_l_word) := ⟨rfl, rfl, rfl, by decide +kernel, rfl, by decide +kernel, by decide +kernel⟩
/-- a text of 1 to n small letters -/
def spWord (K : PySem.W.Frag) : Sp := fun vs H Q _ => ∃ (D : DS) (n : Int), vs = [.ref D.p, .int n] ∧ Drw D H ∧ 0 < n ∧ n ≤ 1000 ∧ ∀ (x : Str) H', Lw x → 1 ≤ x.length → (x.length : Int) ≤ n → Go D H H' → Q (.str x) H'
theorem word_len : ∀ l : List Nat, ((l.map fun k => (⟨#[let_ k]⟩ : Str)).map cs).flatten = l.map let_
  | [] => rfl
  | k :: r => by
    rw [List.map_cons, List.map_cons, List.flatten_cons, word_len r]
    rfl
theorem word_sum : ∀ l : List Nat, ((l.map fun k => (⟨#[let_ k]⟩ : Str)).map (·.length)).sum = l.length
  | [] => rfl
  | k :: r => by
    rw [List.map_cons, List.map_cons, List.sum_cons, word_sum r, List.length_cons]
    show 1 + r.length = r.length + 1
    omega
section
variable {P : Program} {w : World} {K : PySem.W.Frag} {mg : Str → Option Value} {base : Heap}
theorem has_l_word (Z : Zs mg) (A : At K mg "_law_word" s_l_word ["_law_state", "_law_longest"]) (h_l_draw : Has P w K mg base "_law_draw" s_l_draw 1 ["_law_state", "_law_many"] (spDraw)) (h_l_letters : Has P w K mg base "_law_letters" s_l_letters 1 [] (spLetters)) : Has P w K mg base "_law_word" s_l_word 2 ["_law_state", "_law_longest"] (spWord K) := by
  obtain ⟨f, fd, F, mg1, bd⟩ := A
  obtain ⟨f_l_draw, fd_l_draw, G_l_draw, m_l_draw, k_l_draw, b_l_draw, F_l_draw⟩ := h_l_draw
  obtain ⟨f_l_letters, fd_l_letters, G_l_letters, m_l_letters, k_l_letters, b_l_letters, F_l_letters⟩ := h_l_letters
  refine ⟨f, fd, ?_, mg1, F.kp, bd, F⟩
  refine F.ok sc_l_word (fun vs H Q E h => ?_) (fun cdv A outer s H vs Q E hr h => ?_)
  · obtain ⟨D, n, rfl, _⟩ := h
    rfl
  · obtain ⟨D, n, rfl, d, n0, n1, q⟩ := h
    refine ⟨_, (pss_one (ps_ret (pe_join pe_str (pe_lc (own := [("_law_k", 2)]) (g := gName 2) (by rfl) sc_l_word.nd (pi_range1 (by rfl) Z.range_ (pa_cons (pe_op op_add pe_int (pe_call G_l_draw (hr.mono (by decide)) (by rfl) m_l_draw k_l_draw b_l_draw .nil pass0 (pa_cons (pv 0) (pa_cons (pv 1) pa_nil)))) pa_nil)) (blkOk_by (own := [("_law_k", 2)]) (N := ["_law_state", "_law_longest", "_law_k"]) (sc := defScope s_l_word) (by decide +kernel)) (fun _ _ _ _ _ => pg_name (i := 2) sc_l_word.nd rfl (Or.inl rfl)) (fun _ _ _ _ _ => pts_nil) (fun _ _ _ _ _ => (pe_ix ix_str (pe_call0 G_l_letters (hr.mono (by decide)) (by rfl) m_l_letters k_l_letters b_l_letters .nil pass0) (pe_call G_l_draw (hr.mono (by decide)) (by rfl) m_l_draw k_l_draw b_l_draw .nil pass0 (pa_cons (pv 0) (pa_cons pe_int pa_nil))) (fun _ _ => rfl))))))), ?_⟩
    refine ⟨⟨_, rfl⟩, _, rfl, _, rfl, D, n, rfl, d, n0, by omega, fun r H1 r0 r1 g => ⟨_, _, rfl, rfl, _, rfl, by omega, by omega, fun L nL => ?_⟩⟩
    have nLp := g.st.ne_new nL
    refine lc_range (lo := 0) (n := (1 + r).toNat) (fun i H2 => ∃ l : List Nat, l.length = i ∧ (∀ k ∈ l, k < 26) ∧ Go D H H2 ∧ H2 L = some (.lst ((l.map fun k => (⟨#[let_ k]⟩ : Str)).map V.str)))
      ⟨[], rfl, (fun _ z => nomatch z), g.new nL, upd_same⟩ ?_ ?_
    · rintro i H2 hi ⟨l, hl, hk, g2, e2⟩
      refine ⟨rfl, rfl, _, rfl, D, 26, rfl, g2.st, by decide, by decide, fun k H3 k0 k1 g3 => ⟨abc, k, let_ k.toNat, rfl, rfl, sline_abc, atI_let k0 k1, _, g3.old nLp e2, slineL (by rw [List.length_map, List.length_map]; omega), ?_⟩⟩
      refine ⟨l ++ [k.toNat], by rw [List.length_append, hl]; rfl, fun z hz => ?_, (g2.trans g3).mut d (g.free d nL), ?_⟩
      · rcases List.mem_append.mp hz with hz | hz
        · exact hk z hz
        · rw [List.mem_singleton.mp hz]; omega
      · rw [upd_same, List.map_append, List.map_append]
        rfl
    · rintro H2 ⟨l, hl, hk, g2, e2⟩
      refine ⟨_, L, _, rfl, rfl, .inl (.inl (.inl e2)), ?_, ?_⟩
      · rw [word_sum, List.length_map, show (Str.ofString "").length = 0 from rfl]
        omega
      · have ec : cs (Txt.join (Str.ofString "") (l.map fun k => (⟨#[let_ k]⟩ : Str))) = l.map let_ := by
          unfold Txt.join
          rw [PySem.StrLaws.glued_eq_join]
          exact (cs_join _).trans (word_len l)
        refine q _ _ (fun c hc => ?_) ?_ ?_ g2
        · rw [ec] at hc
          obtain ⟨k, hk1, rfl⟩ := List.mem_map.mp hc
          exact let_mem (hk k hk1)
        · rw [cs_len, ec, List.length_map]; omega
        · rw [cs_len, ec, List.length_map]; omega
end
end Th
namespace Th
open PySem PySem.Spec PyProof.Rows L2
abbrev s_l_shuffle : Stmt := topS 16
theorem sc_l_shuffle : FnScope ["_law_state", "_law_pool", "_law_some", "_law_x"] ["_law_state", "_law_pool"] (defScope s_l_shuffle) := ⟨rfl, rfl, rfl, by decide +kernel, rfl, by decide +kernel, by decide +kernel⟩
/-- the things of a list in any order, in a new list -/
def spShuffle (K : PySem.W.Frag) : Sp := fun vs H Q _ => ∃ (D : DS) (q : Addr) (xs : List V), vs = [.ref D.p, .ref q] ∧ Drw D H ∧ SqL K (hid D.p H) q xs ∧ xs.length ≤ 1000 ∧
  ∀ (r : Addr) (ys : List V) H', ys.Perm xs → H r = none → H' r = some (.lst ys) → Go D H H' → Q (.ref r) H'
theorem ins_perm (ys : List V) (i : Nat) (v : V) : (ys.take i ++ [v] ++ ys.drop i).Perm (ys ++ [v]) := by
  have a : (ys.take i ++ [v] ++ ys.drop i).Perm (v :: (ys.take i ++ ys.drop i)) := by
    rw [List.append_assoc]
    exact List.perm_middle
  rw [List.take_append_drop] at a
  exact a.trans (List.perm_append_singleton _ _).symm
section
variable {P : Program} {w : World} {K : PySem.W.Frag} {mg : Str → Option Value} {base : Heap}
theorem has_l_shuffle (Z : Zs mg) (A : At K mg "_law_shuffle" s_l_shuffle ["_law_state", "_law_pool"]) (h_l_draw : Has P w K mg base "_law_draw" s_l_draw 1 ["_law_state", "_law_many"] (spDraw)) : Has P w K mg base "_law_shuffle" s_l_shuffle 2 ["_law_state", "_law_pool"] (spShuffle K) := by
  obtain ⟨f, fd, F, mg1, bd⟩ := A
  obtain ⟨f_l_draw, fd_l_draw, G_l_draw, m_l_draw, k_l_draw, b_l_draw, F_l_draw⟩ := h_l_draw
  refine ⟨f, fd, ?_, mg1, F.kp, bd, F⟩
  refine F.ok sc_l_shuffle (fun vs H Q E h => ?_) (fun cdv A outer s H vs Q E hr h => ?_)
  · obtain ⟨D, p, xs, rfl, _⟩ := h
    rfl
  · obtain ⟨D, p, xs, rfl, d, hS, h1, q⟩ := h
    refine ⟨_, (pss_cons (ps_set (i := 2) sc_l_shuffle.nd rfl (Or.inl rfl) (pe_lst pa_nil)) (pss_cons (ps_for PassesOwn.never rfl (pi_list (pv 1)) (pg_name (i := 3) sc_l_shuffle.nd rfl (Or.inl rfl)) (pss_one (ps_expr (pe_bm PySem.F.plainAttrs_list PySem.F.slot_list_insert PySem.F.type_list_insert mt_insert (pv 2) (pa_cons (pe_call G_l_draw (hr.mono (by decide)) (by rfl) m_l_draw k_l_draw b_l_draw .nil pass0 (pa_cons (pv 0) (pa_cons (pe_op op_add (pe_callB call_len_seq (by rfl) Z.len_ (by decide +kernel) (pa_cons (pv 2) pa_nil)) pe_int) pa_nil))) (pa_cons (pv 3) pa_nil)))))) (pss_one (ps_ret (pv 2))))), ?_⟩
    refine ⟨Nat.zero_le _, fun r nr => ?_⟩
    have nrp := d.ne_new nr
    refine ⟨_, rfl, p, rfl, ⟨xs, (same_new nr).seq (hid_same.seq hS)⟩, for_list (K := K) (a := p) (xs := xs) (fun i σ H2 => ∃ (y : Option V) (ys : List V), σ = [some (.ref D.p), some (.ref p), some (.ref r), y] ∧ Go D H H2 ∧ H2 r = some (.lst ys) ∧ ys.Perm (xs.take i))
      ⟨none, [], rfl, (Go.refl d).new nr, upd_same, List.Perm.nil⟩ (fun i σ H2 _ ⟨_, _, _, g, _⟩ => hid_same.seq (g.sm.seq hS)) ?_ ?_⟩
    · rintro i v σ H2 hi ⟨y, ys, rfl, g, er, pm⟩
      have hil := lt_of_get hi
      have hlen : ys.length = i := by rw [pm.length_eq, List.length_take]; omega
      refine ⟨_, rfl, .inl ⟨rfl, _, .inl (.inl er)⟩, _, rfl, _, rfl, r, ys, rfl, .inl (.inl (.inl er)), _, _, rfl, rfl, D, _, rfl, g.st, by omega, by omega, fun k H3 k0 k1 g3 => ?_⟩
      refine ⟨_, rfl, r, ys, k, v, rfl, rfl, g3.old nrp er, slineL (by omega), k0, by omega, ?_⟩
      refine ⟨_, _, rfl, (g.trans g3).mut d nr, upd_same, (ins_perm ys k.toNat v).trans ?_⟩
      rw [List.take_add_one, hi]
      exact pm.append_right [v]
    · rintro σ H2 ⟨y, ys, rfl, g, er, pm⟩
      rw [List.take_length] at pm
      exact ⟨_, rfl, q r ys H2 pm nr er g⟩
end
end Th
namespace Th
open PySem PySem.Spec PyProof.Rows L2
abbrev s_l_names : Stmt := topS 19
theorem sc_l_names : FnScope ["_law_state", "_law_many", "_law_first", "_law_stride", "_law_letters_here", "_law_k", "_law_signs", "_law_way", "_law_stem", "_law_spot", "_law_sign", "_law_known", "_law_some", "_law_longer", "_law_tag", "_law_spare"] ["_law_state", "_law_many"] (defScope s_l_names) := ⟨rfl, rfl, rfl, by decide +kernel, rfl, by decide +kernel, by decide +kernel⟩
/-- n names, each once, in a new list -/
def spNames (K : PySem.W.Frag) : Sp := fun vs H Q _ => ∃ (D : DS) (n : Int), vs = [.ref D.p, .int n] ∧ Drw D H ∧ 0 < n ∧ n ≤ 40 ∧ ∀ (r : Addr) (xs : List Str) H', Nms xs → (xs.length : Int) = n → H r = none → H' r = some (.lst (xs.map V.str)) → Go D H H' → Q (.ref r) H'
section
variable {P : Program} {w : World} {K : PySem.W.Frag} {mg : Str → Option Value} {base : Heap}
theorem has_l_names (Z : Zs mg) (A : At K mg "_law_names" s_l_names ["_law_state", "_law_many"]) (h_l_draw : Has P w K mg base "_law_draw" s_l_draw 1 ["_law_state", "_law_many"] (spDraw)) (h_l_pick : Has P w K mg base "_law_pick" s_l_pick 2 ["_law_state", "_law_pool"] (spPick K)) (h_l_letters : Has P w K mg base "_law_letters" s_l_letters 1 [] (spLetters)) (h_l_word : Has P w K mg base "_law_word" s_l_word 2 ["_law_state", "_law_longest"] (spWord K)) (h_l_shuffle : Has P w K mg base "_law_shuffle" s_l_shuffle 2 ["_law_state", "_law_pool"] (spShuffle K)) : Has P w K mg base "_law_names" s_l_names 3 ["_law_state", "_law_many"] (spNames K) := by
  obtain ⟨f, fd, F, mg1, bd⟩ := A
  obtain ⟨f_l_draw, fd_l_draw, G_l_draw, m_l_draw, k_l_draw, b_l_draw, F_l_draw⟩ := h_l_draw
  obtain ⟨f_l_pick, fd_l_pick, G_l_pick, m_l_pick, k_l_pick, b_l_pick, F_l_pick⟩ := h_l_pick
  obtain ⟨f_l_letters, fd_l_letters, G_l_letters, m_l_letters, k_l_letters, b_l_letters, F_l_letters⟩ := h_l_letters
  obtain ⟨f_l_word, fd_l_word, G_l_word, m_l_word, k_l_word, b_l_word, F_l_word⟩ := h_l_word
  obtain ⟨f_l_shuffle, fd_l_shuffle, G_l_shuffle, m_l_shuffle, k_l_shuffle, b_l_shuffle, F_l_shuffle⟩ := h_l_shuffle
  refine ⟨f, fd, ?_, mg1, F.kp, bd, F⟩
  refine F.ok sc_l_names (fun vs H Q E h => ?_) (fun cdv A outer s H vs Q E hr h => ?_)
  · obtain ⟨D, n, rfl, _⟩ := h
    rfl
  · obtain ⟨D, n, rfl, d, n0, n1, q⟩ := h
    refine ⟨_, (pss_cons (ps_asg (pe_tup (pa_cons (pe_call G_l_draw (hr.mono (by decide)) (by rfl) m_l_draw k_l_draw b_l_draw .nil pass0 (pa_cons (pv 0) (pa_cons pe_int pa_nil))) (pa_cons (pe_call G_l_pick (hr.mono (by decide)) (by rfl) m_l_pick k_l_pick b_l_pick .nil pass0 (pa_cons (pv 0) (pa_cons (pe_lst (pa_cons pe_int (pa_cons pe_int (pa_cons pe_int (pa_cons pe_int (pa_cons pe_int (pa_cons pe_int (pa_cons pe_int pa_nil)))))))) pa_nil))) pa_nil))) (pg_tup (by rfl) (pgs_cons (pg_name (i := 2) sc_l_names.nd rfl (Or.inr rfl)) (pgs_cons (pg_name (i := 3) sc_l_names.nd rfl (Or.inr rfl)) pgs_nil)))) (pss_cons (ps_set (i := 4) sc_l_names.nd rfl (Or.inr rfl) (pe_lc (own := [("_law_k", 5)]) (g := gName 5) (by rfl) sc_l_names.nd (pi_range1 (by rfl) Z.range_ (pa_cons (pv 1) pa_nil)) (blkOk_by (own := [("_law_k", 5)]) (N := ["_law_state", "_law_many", "_law_first", "_law_stride", "_law_letters_here", "_law_k", "_law_signs", "_law_way", "_law_stem", "_law_spot", "_law_sign", "_law_known", "_law_some", "_law_longer", "_law_tag", "_law_spare"]) (sc := defScope s_l_names) (by decide +kernel)) (fun _ _ _ _ _ => pg_name (i := 5) sc_l_names.nd rfl (Or.inl rfl)) (fun _ _ _ _ _ => pts_nil) (fun _ _ _ _ _ => (pe_ix ix_str (pe_call0 G_l_letters (hr.mono (by decide)) (by rfl) m_l_letters k_l_letters b_l_letters .nil pass0) (pe_op op_mod (pe_callTy call_int1 (by rfl) Z.int_ (by decide +kernel) (pa_cons (pe_op op_add (pv 2) (pe_op op_mod (pe_op op_mul (pv 3) (pe_callTy call_int1 (by rfl) Z.int_ (by decide +kernel) (pa_cons (pv 5) pa_nil))) pe_int)) pa_nil)) pe_int) (fun _ _ => rfl))))) (pss_cons (ps_setLc (i := 6) (own := [("_law_k", 5)]) (g := gName 5) (by rfl) sc_l_names.nd rfl rfl (sw_true rfl rfl rfl (by decide +kernel)) (pi_range1 (by rfl) Z.range_ (pa_cons (pv 1) pa_nil)) (blkOk_by (own := [("_law_k", 5)]) (N := ["_law_state", "_law_many", "_law_first", "_law_stride", "_law_letters_here", "_law_k", "_law_signs", "_law_way", "_law_stem", "_law_spot", "_law_sign", "_law_known", "_law_some", "_law_longer", "_law_tag", "_law_spare"]) (sc := defScope s_l_names) (by decide +kernel)) (fun _ _ _ _ _ => pg_name (i := 5) sc_l_names.nd rfl (Or.inl rfl)) (fun _ _ _ _ _ => pts_nil) (fun _ _ _ _ _ => (pe_op op_add_str (pe_ix (show IxR _ (rIxL K) from ix_list) (pv 4) (pv 5) (fun _ _ => rfl)) (pe_ifExp (pt_cmpR op_lt (pv 5) pe_int (nomark _)) pe_str (pe_ix ix_str (pe_call0 G_l_letters (hr.mono (by decide)) (by rfl) m_l_letters k_l_letters b_l_letters .nil pass0) (pe_op op_fdiv (pv 5) pe_int) (fun _ _ => rfl)))))) (pss_cons (ps_asg (pe_tup (pa_cons (pe_call G_l_draw (hr.mono (by decide)) (by rfl) m_l_draw k_l_draw b_l_draw .nil pass0 (pa_cons (pv 0) (pa_cons pe_int pa_nil))) (pa_cons (pe_call G_l_word (hr.mono (by decide)) (by rfl) m_l_word k_l_word b_l_word .nil pass0 (pa_cons (pv 0) (pa_cons pe_int pa_nil))) pa_nil))) (pg_tup (by rfl) (pgs_cons (pg_name (i := 7) sc_l_names.nd rfl (Or.inl rfl)) (pgs_cons (pg_name (i := 8) sc_l_names.nd rfl (Or.inr rfl)) pgs_nil)))) (pss_cons (ps_if (pt_cmpR op_eq (pv 7) pe_int (nomark _)) (pss_cons (ps_set (i := 9) sc_l_names.nd rfl (Or.inr rfl) (pe_call G_l_draw (hr.mono (by decide)) (by rfl) m_l_draw k_l_draw b_l_draw .nil pass0 (pa_cons (pv 0) (pa_cons (pe_op op_add (pe_callB call_len_str (by rfl) Z.len_ (by decide +kernel) (pa_cons (pv 8) pa_nil)) pe_int) pa_nil)))) (pss_one (ps_ret (pe_lc (own := [("_law_sign", 10)]) (g := gName 10) (by rfl) sc_l_names.nd (pi_list (pv 6)) (blkOk_by (own := [("_law_sign", 10)]) (N := ["_law_state", "_law_many", "_law_first", "_law_stride", "_law_letters_here", "_law_k", "_law_signs", "_law_way", "_law_stem", "_law_spot", "_law_sign", "_law_known", "_law_some", "_law_longer", "_law_tag", "_law_spare"]) (sc := defScope s_l_names) (by decide +kernel)) (fun _ _ _ _ _ => pg_name (i := 10) sc_l_names.nd rfl (Or.inl rfl)) (fun _ _ _ _ _ => pts_nil) (fun _ _ _ _ _ => (pe_op op_add_str (pe_op op_add_str (pe_slice sl_str (pv 8) po_none (po_some (pv 9))) (pv 10)) (pe_slice sl_str (pv 8) (po_some (pv 9)) po_none))))))) pss_nil) (pss_cons (ps_if (pt_cmpR op_eq (pv 7) pe_int (nomark _)) (pss_cons (ps_set (i := 11) sc_l_names.nd rfl (Or.inl rfl) (pe_lst (pa_cons pe_str (pa_cons pe_str (pa_cons pe_str (pa_cons pe_str (pa_cons pe_str (pa_cons pe_str (pa_cons pe_str (pa_cons pe_str (pa_cons pe_str (pa_cons pe_str (pa_cons pe_str (pa_cons pe_str pa_nil)))))))))))))) (pss_one (ps_ret (pe_call G_l_shuffle (hr.mono (by decide)) (by rfl) m_l_shuffle k_l_shuffle b_l_shuffle .nil pass0 (pa_cons (pv 0) (pa_cons (pe_slice sl_list (pe_op op_cat (pe_call G_l_shuffle (hr.mono (by decide)) (by rfl) m_l_shuffle k_l_shuffle b_l_shuffle .nil pass0 (pa_cons (pv 0) (pa_cons (pv 11) pa_nil))) (pv 6)) po_none (po_some (pv 1))) pa_nil)))))) pss_nil) (pss_cons (ps_set (i := 12) sc_l_names.nd rfl (Or.inr rfl) (pe_lst pa_nil)) (pss_cons (ps_for PassesOwn.never rfl (pi_range1 (by rfl) Z.range_ (pa_cons (pv 1) pa_nil)) (pg_name (i := 5) sc_l_names.nd rfl (Or.inl rfl)) (C8.pss_cut (ps_set (i := 13) sc_l_names.nd rfl (Or.inl rfl) (pe_and (pe_cmpR op_gt (pv 5) pe_int (nomark _)) (pe_one (pe_cmpR op_eq (pe_call G_l_draw (hr.mono (by decide)) (by rfl) m_l_draw k_l_draw b_l_draw .nil pass0 (pa_cons (pv 0) (pa_cons pe_int pa_nil))) pe_int (nomark _))))) (C8.pss_cut (ps_set (i := 14) sc_l_names.nd rfl (Or.inl rfl) (pe_ifExp (pt_val (pv 13)) (pe_slice sl_str (pe_op op_add_str (pe_ix ix_list (pv 12) (pe_call G_l_draw (hr.mono (by decide)) (by rfl) m_l_draw k_l_draw b_l_draw .nil pass0 (pa_cons (pv 0) (pa_cons (pv 5) pa_nil))) (fun _ _ => rfl)) (pe_call G_l_word (hr.mono (by decide)) (by rfl) m_l_word k_l_word b_l_word .nil pass0 (pa_cons (pv 0) (pa_cons pe_int pa_nil)))) po_none (po_some pe_int)) (pe_call G_l_word (hr.mono (by decide)) (by rfl) m_l_word k_l_word b_l_word .nil pass0 (pa_cons (pv 0) (pa_cons pe_int pa_nil))))) (pss_cons (ps_setLc (i := 15) (own := [("_law_sign", 10)]) (g := gName 10) (by rfl) sc_l_names.nd rfl rfl (sw_true rfl rfl rfl (by decide +kernel)) (pi_list (pv 6)) (blkOk_by (own := [("_law_sign", 10)]) (N := ["_law_state", "_law_many", "_law_first", "_law_stride", "_law_letters_here", "_law_k", "_law_signs", "_law_way", "_law_stem", "_law_spot", "_law_sign", "_law_known", "_law_some", "_law_longer", "_law_tag", "_law_spare"]) (sc := defScope s_l_names) (by decide +kernel)) (fun _ _ _ _ _ => pg_name (i := 10) sc_l_names.nd rfl (Or.inl rfl)) (fun _ _ _ _ _ => (pts_one (pt_cmpR (show OpR _ (compareOp .NotIn) (rIn K true) from op_notIn_seq) (pv 10) (pv 12) (by rfl)))) (fun _ _ _ _ _ => (pv 10))) (pss_one (ps_expr (pe_bm PySem.F.plainAttrs_list PySem.F.slot_list_append PySem.F.type_list_append mt_append (pv 12) (pa_cons (pe_ifExp (pt_cmpR op_in_seq (pv 14) (pv 12) (by rfl)) (pe_ix ix_list (pv 15) pe_int (fun _ _ => rfl)) (pv 14)) pa_nil)))))))) (pss_one (ps_ret (pv 12))))))))))), ?_⟩
    refine ⟨_, rfl, D, 26, rfl, d, by decide, by decide, fun a H1 a0 a1 g1 => ⟨_, rfl, (by show 7 ≤ sizeLine; decide), fun u nu => ?_⟩⟩
    have nup := g1.st.ne_new nu
    refine ⟨D, u, _, rfl, g1.st.new nu, sqh nup upd_same, by show 0 < 7; decide, by show 7 ≤ 1000; decide, fun i v H2 hv g2 => ?_⟩
    obtain ⟨b, hb, hb2, rfl⟩ := stride_of hv
    obtain ⟨a, rfl⟩ := Int.eq_ofNat_of_zero_le a0
    have ha : a < 26 := by omega
    refine ⟨(by show 2 ≤ sizeLine; decide), fun t nt => ⟨t, _, rfl, .inl (.inl upd_same), rfl, _, _, rfl, _, _, rfl, rfl, ?_⟩⟩
    have g3 := ((g1.new nu).trans g2).new (o := .tup [.int (a : Int), .int (b : Int)]) nt
    generalize upd H2 t (.tup [.int (a : Int), .int (b : Int)]) = H3 at g3 ⊢
    -- the first letters
    refine ⟨_, rfl, _, rfl, by omega, by omega, fun L nL => ?_⟩
    have nLp := g3.st.ne_new nL
    refine lc_range (lo := 0) (n := n.toNat) (fun i H4 => Go D H H4 ∧ H4 L = some (.lst ((List.range i).map fun k => V.str (sg1 a b k)))) ⟨g3.new nL, upd_same⟩ ?_ ?_
    · rintro i H4 hi ⟨g4, e4⟩
      refine ⟨rfl, rfl, _, rfl, _, rfl, _, rfl, .inl ⟨_, rfl, _, _, rfl, rfl, .inl ⟨by omega, by omega⟩, _, _, rfl, rfl, (by show (0 : Int) < 26; decide), _, _, rfl, rfl, .inl ⟨_, rfl, _, _, rfl, rfl, (by show (0 : Int) < 26; decide), abc, _, let_ ((a + b * i % 26) % 26), rfl, rfl, sline_abc, ?_, _, e4, slineL (by rw [List.length_map, List.length_range]; omega), ?_⟩⟩⟩
      · rw [ixe]
        exact atI_nat (xs := cs abc) (let_at (Nat.mod_lt _ (by decide)))
      · exact ⟨g4.mut d (g3.free d nL), by rw [upd_same, mapr]; rfl⟩
    rintro H4 ⟨g4, eL⟩
    -- the signs
    refine ⟨_, rfl, _, rfl, by omega, by omega, fun S nS => ?_⟩
    have nSp := g4.st.ne_new nS
    have nSL : L ≠ S := ne_of_none eL nS
    refine lc_range (lo := 0) (n := n.toNat) (fun i H5 => Go D H H5 ∧ H5 L = some (.lst ((List.range n.toNat).map fun k => V.str (sg1 a b k))) ∧ H5 S = some (.lst ((List.range i).map fun k => V.str (sgn a b k))))
      ⟨g4.new nS, by rw [upd_ne nSL]; exact eL, upd_same⟩ ?_ ?_
    · rintro i H5 hi ⟨g5, eL5, eS5⟩
      have lS : ((List.range i).map fun k => V.str (sgn a b k)).length < sizeLine := slineL (by rw [List.length_map, List.length_range]; omega)
      refine ⟨rfl, _, rfl, _, rfl, L, _, _, _, rfl, rfl, .inl (.inl eL5), atI_of (by omega) (by rw [show ((0 : Int) + (i : Int)).toNat = i by omega]; exact getr _ hi), _, rfl, _, _, rfl, rfl, _, rfl, ?_⟩
      have fin : ∀ H6, H6 = H5 → ∃ acc, H6 S = some (.lst acc) ∧ acc.length < sizeLine ∧ Go D H (upd H6 S (.lst (acc ++ [V.str (sgn a b i)]))) ∧ (upd H6 S (.lst (acc ++ [V.str (sgn a b i)]))) L = some (.lst ((List.range n.toNat).map fun k => V.str (sg1 a b k))) ∧
          (upd H6 S (.lst (acc ++ [V.str (sgn a b i)]))) S = some (.lst ((List.range (i + 1)).map fun k => V.str (sgn a b k))) := fun H6 e => by
        subst e
        exact ⟨_, eS5, lS, g5.mut d (g4.free d nS), by rw [upd_ne nSL]; exact eL5, by rw [upd_same, mapr]⟩
      refine ite2 (fun hk => ?_) (fun hk => ?_)
      · have hk' : i < 26 := by have := of_decide_eq_true hk; omega
        refine ⟨_, _, rfl, rfl, by show 1 + 0 ≤ sizeLine; decide, ?_⟩
        have e : sg1 a b i ++ (Str.ofString "") = sgn a b i := by
          unfold sgn
          rw [if_pos hk']
          rfl
        rw [e]
        exact fin _ rfl
      · have hk' : ¬ i < 26 := fun z => hk (decide_eq_true (by omega))
        refine ⟨rfl, _, rfl, _, _, rfl, rfl, ⟨by decide, by decide⟩, abc, _, let_ (i / 26), rfl, rfl, sline_abc, ?_, _, _, rfl, rfl, by show 1 + 1 ≤ sizeLine; decide, ?_⟩
        · rw [show ((0 : Int) + (i : Int)) / 26 = ((i / 26 : Nat) : Int) by omega]
          exact atI_nat (xs := cs abc) (let_at (by omega))
        · have e : sg1 a b i ++ (⟨#[let_ (i / 26)]⟩ : Str) = sgn a b i := by
            unfold sgn
            rw [if_neg hk']
            rfl
          rw [e]
          exact fin _ rfl
    rintro H5 ⟨g5, eL5, eS5⟩
    have eS : ((List.range n.toNat).map fun k => V.str (sgn a b k)) = (sgns a b n.toNat).map V.str := by
      unfold sgns
      rw [List.map_map]
      rfl
    rw [eS] at eS5
    clear eS eL5 nSL
    have freeS := g4.free d nS
    clear eL nS g4 nL nLp g3
    -- way, stem
    refine ⟨_, rfl, D, 4, rfl, g5.st, by decide, by decide, fun way H6 w0 w1 g6 => ⟨_, rfl, D, 4, rfl, g6.st, by decide, by decide, fun stem H7 k1 k2 k3 g7 => ?_⟩⟩
    refine ⟨(by show 2 ≤ sizeLine; decide), fun t2 nt2 => ⟨t2, _, rfl, .inl (.inl upd_same), rfl, _, _, rfl, _, _, rfl, rfl, ?_⟩⟩
    have g8 := ((g5.trans g6).trans g7).new (o := .tup [.int way, .str stem]) nt2
    have eS8 : (upd H7 t2 (.tup [.int way, .str stem])) S = some (.lst ((sgns a b n.toNat).map V.str)) := by
      have q1 := g7.old nSp (g6.old nSp eS5)
      rw [upd_ne (ne_of_none q1 nt2)]
      exact q1
    generalize upd H7 t2 (.tup [.int way, .str stem]) = H8 at g8 eS8 ⊢
    have lenS : (sgns a b n.toNat).length = n.toNat := sgns_len a b n.toNat
    have l40 : n.toNat ≤ 40 := by omega
    refine ⟨_, rfl, rfl, _, rfl, ?_⟩
    refine ite2 (fun hw => ?_) (fun hw => ?_)
    · -- a stem around each sign
      refine ⟨_, rfl, _, rfl, _, rfl, sline (by omega), _, _, rfl, rfl, D, _, rfl, g8.st, by omega, by omega, fun spot H9 s0 s1 g9 => ?_⟩
      have eS9 := g9.old nSp eS8
      refine ⟨_, rfl, S, rfl, ⟨_, .inl (.inl eS9)⟩, fun R nR => ?_⟩
      have nRp := g9.st.ne_new nR
      have nRS : S ≠ R := ne_of_none eS9 nR
      have freeR := (g8.trans g9).free d nR
      refine lc_list (K := K) (a := S) (xs := (sgns a b n.toNat).map V.str) (fun i H10 => Go D H H10 ∧ H10 S = some (.lst ((sgns a b n.toNat).map V.str)) ∧ H10 R = some (.lst ((((sgns a b n.toNat).map (stm stem spot.toNat)).take i).map V.str)))
        ⟨(g8.trans g9).new nR, by rw [upd_ne nRS]; exact eS9, upd_same⟩ (fun i H10 _ z => .inl (.inl z.2.1)) ?_ ?_
      · rintro i y H10 hi ⟨g10, e1, e2⟩
        obtain ⟨x, hx, rfl⟩ := getmap hi
        have hxm := sgns_mem l40 (List.mem_of_getElem? hx)
        have hlt := lt_of_get hx
        have c1 := cutS_length stem none (some spot)
        have c2 := cutS_length stem (some spot) none
        refine ⟨rfl, _, rfl, _, rfl, spot, rfl, stem, rfl, sline (by omega), _, rfl, _, _, rfl, rfl, sline (by omega), _, rfl, _, rfl, spot, rfl, stem, rfl, sline (by omega), _, _, rfl, rfl, sline ?_, ?_⟩
        · show ((cutS stem none (some spot)).cps ++ x.cps).size + _ ≤ 100000
          rw [Array.size_append]
          have z1 : (cutS stem none (some spot)).cps.size = (cutS stem none (some spot)).length := rfl
          have z2 : x.cps.size = x.length := rfl
          omega
        · rw [stm_eq s0 (by omega)]
          refine ⟨_, e2, slineL (by rw [List.length_map, List.length_take]; omega), g10.mut d freeR, by rw [upd_ne nRS]; exact e1, ?_⟩
          rw [upd_same, take_succ_map (f := V.str) (x := stm stem spot.toNat x) (by rw [List.getElem?_map, hx]; rfl)]
      · rintro H10 ⟨g10, e1, e2⟩
        rw [List.length_map, show (sgns a b n.toNat).length = ((sgns a b n.toNat).map (stm stem spot.toNat)).length from (List.length_map _).symm, List.take_length] at e2
        exact q R _ H10 (nms_stem k1 (by omega) ha hb l40) (by rw [List.length_map, lenS]; omega) freeR e2 g10
    refine ⟨_, rfl, rfl, _, rfl, ?_⟩
    refine ite2 (fun hw1 => ?_) (fun hw1 => ?_)
    · -- words of the texts ahead
      refine ⟨(by show 12 ≤ sizeLine; decide), fun c nc => ?_⟩
      have ncp := g8.st.ne_new nc
      have g9 := g8.new (o := .lst (kno.map V.str)) nc
      have eS9 : (upd H8 c (.lst (kno.map V.str))) S = some (.lst ((sgns a b n.toNat).map V.str)) := by rw [upd_ne (ne_of_none eS8 nc)]; exact eS8
      have ec9 : (upd H8 c (.lst (kno.map V.str))) c = some (.lst (kno.map V.str)) := upd_same
      show _
      refine ⟨_, rfl, _, rfl, _, rfl, D, c, kno.map V.str, rfl, g9.st, sqh ncp ec9, by show 12 ≤ 1000; decide, fun r ys H10 pm nr er g10 => ?_⟩
      obtain ⟨zs, rfl, pz⟩ := perm_strs pm
      have lz : zs.length = 12 := pz.length_eq
      have eS10 := g10.old nSp eS9
      refine ⟨_, rfl, r, S, _, _, rfl, rfl, er, eS10, sline (by rw [List.length_map, List.length_map]; omega), fun e ne_ => ?_⟩
      have nep := g10.st.ne_new ne_
      rw [← List.map_append]
      refine ⟨_, rfl, n, rfl, e, _, rfl, .inl (.inl upd_same), fun v nv => ?_⟩
      have nvp := ((g9.trans g10).new ne_).st.ne_new nv
      rw [cut_to _ (by omega), ← List.map_take]
      have nm := nms_known ha hb l40 pz n.toNat
      have lm : ((zs ++ sgns a b n.toNat).take n.toNat).length = n.toNat := by rw [List.length_take, List.length_append]; omega
      generalize (zs ++ sgns a b n.toNat).take n.toNat = ws at nm lm ⊢
      refine ⟨D, v, ws.map V.str, rfl, (((g9.trans g10).new ne_).new nv).st, sqh nvp upd_same, by rw [List.length_map]; omega, fun r2 ys2 H11 pm2 nr2 er2 g11 => ?_⟩
      obtain ⟨zs2, rfl, pz2⟩ := perm_strs pm2
      have gg := ((g9.trans g10).new ne_).new (o := .lst (ws.map V.str)) nv
      exact q r2 zs2 H11 ⟨pz2.nodup_iff.mpr nm.1, fun x hx => nm.2 x (pz2.mem_iff.mp hx)⟩ (by rw [pz2.length_eq, lm]; omega) (gg.free d nr2) er2 (gg.trans g11)
    · -- names one by one
      refine ⟨Nat.zero_le _, fun R nR => ?_⟩
      have nRp := g8.st.ne_new nR
      have nRS : S ≠ R := ne_of_none eS8 nR
      have freeR := g8.free d nR
      refine ⟨_, rfl, n, rfl, by omega, by omega, for_range (lo := 0) (n := n.toNat) (fun i σ H9 => ∃ (xs : List Str) (y1 y2 y3 y4 : Option V), σ = [some (.ref D.p), some (.int n), some (.int a), some (.int b), some (.ref L), y1, some (.ref S), some (.int way), some (.str stem), none, none, none, some (.ref R), y2, y3, y4] ∧
          Go D H H9 ∧ H9 S = some (.lst ((sgns a b n.toNat).map V.str)) ∧ H9 R = some (.lst (xs.map V.str)) ∧ Nms xs ∧ xs.length = i)
        ⟨[], none, none, none, none, rfl, g8.new nR, by rw [upd_ne nRS]; exact eS8, upd_same, ⟨List.nodup_nil, fun _ z => nomatch z⟩, rfl⟩ ?_ ?_⟩
      · rintro i σ H9 hi ⟨xs, y1, y2, y3, y4, rfl, g9, e1, e2, nm, lx⟩
        have lxs : (xs.map V.str).length ≤ 40 := by rw [List.length_map]; omega
        refine ⟨fun σ H10 => ∃ (c : Bool) (y3 y4 : Option V), σ = [some (.ref D.p), some (.int n), some (.int a), some (.int b), some (.ref L), some (.int (0 + (i : Int))), some (.ref S), some (.int way), some (.str stem), none, none, none, some (.ref R), some (.bl c), y3, y4] ∧
          Go D H H10 ∧ H10 S = some (.lst ((sgns a b n.toNat).map V.str)) ∧ H10 R = some (.lst (xs.map V.str)) ∧ (c = true → 0 < i), ?_, ?_⟩
        · refine ⟨_, rfl, _, _, rfl, rfl, _, rfl, ?_⟩
          refine ite2 (fun hp => ?_) (fun hp => ?_)
          · have hp' : 0 < i := by have := of_decide_eq_true hp; omega
            refine ⟨_, rfl, D, 3, rfl, g9.st, by decide, by decide, fun r H10 r0 r1 g10 => ⟨rfl, _, _, _, rfl, g9.trans g10, g10.old nSp e1, g10.old nRp e2, fun _ => hp'⟩⟩
          · exact ⟨_, _, _, rfl, g9, e1, e2, fun z => nomatch z⟩
        rintro σ H10 ⟨c, y3, y4, rfl, g10, e3, e4, hc⟩
        refine ⟨fun σ H11 => ∃ (tag : Str) (y4 : Option V), σ = [some (.ref D.p), some (.int n), some (.int a), some (.int b), some (.ref L), some (.int (0 + (i : Int))), some (.ref S), some (.int way), some (.str stem), none, none, none, some (.ref R), some (.bl c), some (.str tag), y4] ∧
          Go D H H11 ∧ H11 S = some (.lst ((sgns a b n.toNat).map V.str)) ∧ H11 R = some (.lst (xs.map V.str)) ∧ isNm tag = true, ?_, ?_⟩
        · refine ⟨_, rfl, c, rfl, ?_⟩
          cases c with
          | true =>
            refine iteT ?_
            have hp' := hc rfl
            refine ⟨_, rfl, _, rfl, _, rfl, D, _, rfl, g10.st, by omega, by omega, fun r H11 r0 r1 g11 => ?_⟩
            obtain ⟨v, hv⟩ : ∃ v, xs[r.toNat]? = some v := ⟨_, List.getElem?_eq_getElem (by omega)⟩
            have hvn := nm.2 v (List.mem_of_getElem? hv)
            refine ⟨R, _, r, .str v, rfl, rfl, .inl (.inl (g11.old nRp e4)), atI_of r0 (by rw [List.getElem?_map, hv]; rfl), ?_⟩
            refine ⟨_, rfl, D, 1, rfl, g11.st, by decide, by decide, fun x H12 x1 x2 x3 g12 => ?_⟩
            have hvl := isNm_len hvn
            have hz : (v ++ x).length ≤ 100000 := by rw [cs_len, cs_app, List.length_append, ← cs_len, ← cs_len]; omega
            refine ⟨_, _, rfl, rfl, sline (by omega), 6, rfl, _, rfl, sline hz, ?_⟩
            exact ⟨_, _, rfl, (g10.trans g11).trans g12, g12.old nSp (g11.old nSp e3), g12.old nRp (g11.old nRp e4), nm_long hvn x1⟩
          | false =>
            refine iteF ?_
            refine ⟨_, rfl, D, 6, rfl, g10.st, by decide, by decide, fun x H12 x1 x2 x3 g12 => ?_⟩
            exact ⟨_, _, rfl, g10.trans g12, g12.old nSp e3, g12.old nRp e4, nm_word x1 x2 x3⟩
        rintro σ H11 ⟨tag, y4, rfl, g11, e5, e6, ht⟩
        refine ⟨_, rfl, S, rfl, ⟨_, .inl (.inl e5)⟩, fun T nT => ?_⟩
        have nTp := g11.st.ne_new nT
        have nTS : S ≠ T := ne_of_none e5 nT
        have nTR : R ≠ T := ne_of_none e6 nT
        refine lc_list (K := K) (a := S) (xs := (sgns a b n.toNat).map V.str) (fun i H12 => Go D H H12 ∧ H12 S = some (.lst ((sgns a b n.toNat).map V.str)) ∧ H12 R = some (.lst (xs.map V.str)) ∧ H12 T = some (.lst ((((sgns a b n.toNat).take i).filter (fun s => !decide (s ∈ xs))).map V.str)))
          ⟨g11.new nT, by rw [upd_ne nTS]; exact e5, by rw [upd_ne nTR]; exact e6, upd_same⟩ (fun i H12 _ z => .inl (.inl z.2.1)) ?_ ?_
        · rintro j y H12 hj ⟨g12, z1, z2, z3⟩
          obtain ⟨x, hx, rfl⟩ := getmap hj
          have hlt := lt_of_get hx
          have hl3 : ((((sgns a b n.toNat).take j).filter (fun s => !decide (s ∈ xs))).map V.str).length < sizeLine := by
            refine slineL ?_
            rw [List.length_map]
            have q1 := List.length_filter_le (fun s => !decide (s ∈ xs)) ((sgns a b n.toNat).take j)
            rw [List.length_take] at q1
            omega
          have step : ((sgns a b n.toNat).take (j + 1)).filter (fun s => !decide (s ∈ xs)) = ((sgns a b n.toNat).take j).filter (fun s => !decide (s ∈ xs)) ++ (if x ∈ xs then [] else [x]) := by
            rw [List.take_add_one, hx, List.filter_append]
            by_cases hm : x ∈ xs
            · simp [hm]
            · simp [hm]
          refine ⟨rfl, _, rfl, _, rfl, R, _, rfl, .inl (.inl (.inl z2)), rfl, flatS xs, _, rfl, ?_⟩
          rw [inS]
          refine ite2 (fun hm => ?_) (fun hm => ?_)
          · have hm' : x ∉ xs := by simpa using hm
            refine ⟨_, rfl, _, z3, hl3, g12.mut d (g11.free d nT), by rw [upd_ne nTS]; exact z1, by rw [upd_ne nTR]; exact z2, ?_⟩
            rw [upd_same, step, if_neg hm', List.map_append]
            rfl
          · have hm' : x ∈ xs := by simpa using hm
            refine ⟨g12, z1, z2, ?_⟩
            rw [z3, step, if_pos hm', List.append_nil]
        · rintro H12 ⟨g12, z1, z2, z3⟩
          rw [List.length_map, List.take_length] at z3
          refine ⟨_, rfl, .inl ⟨rfl, _, .inl (.inl z2)⟩, _, rfl, _, rfl, R, _, rfl, .inl (.inl (.inl z2)), rfl, flatS xs, _, rfl, ?_⟩
          rw [inS]
          have app : ∀ x : Str, isNm x = true → x ∉ xs → ∃ l ys w, V.ref R = V.ref l ∧ [V.str x] = [w] ∧ H12 l = some (.lst ys) ∧ ys.length < sizeLine ∧
              ∃ (xs' : List Str) (y1 y2 y3 y4 : Option V), [some (V.ref D.p), some (V.int n), some (V.int a), some (V.int b), some (V.ref L), some (V.int (0 + (i : Int))), some (V.ref S), some (V.int way), some (V.str stem), none, none, none, some (V.ref R), some (V.bl c), some (V.str tag), some (V.ref T)] =
                [some (.ref D.p), some (.int n), some (.int a), some (.int b), some (.ref L), y1, some (.ref S), some (.int way), some (.str stem), none, none, none, some (.ref R), y2, y3, y4] ∧
                Go D H (upd H12 l (.lst (ys ++ [w]))) ∧ (upd H12 l (.lst (ys ++ [w]))) S = some (.lst ((sgns a b n.toNat).map V.str)) ∧ (upd H12 l (.lst (ys ++ [w]))) R = some (.lst (xs'.map V.str)) ∧ Nms xs' ∧ xs'.length = i + 1 := fun x hx hn =>
            ⟨R, _, _, rfl, rfl, z2, slineL (by omega), xs ++ [x], _, _, _, _, rfl, g12.mut d freeR, by rw [upd_ne nRS]; exact z1, by rw [upd_same, List.map_append]; rfl, nm.snoc hx hn, by rw [List.length_append, lx]; rfl⟩
          refine ite2 (fun hm => ?_) (fun hm => ?_)
          · obtain ⟨s0, r0, hs0⟩ := spare_left (xs := xs) (sgns_nodup ha hb l40) (by omega)
            rw [hs0] at z3
            refine ⟨_, rfl, T, _, 0, .str s0, rfl, rfl, .inl (.inl z3), atI_of (by decide) rfl, ?_⟩
            have hs1 : s0 ∈ (sgns a b n.toNat).filter (fun s => !decide (s ∈ xs)) := by rw [hs0]; exact List.mem_cons_self
            obtain ⟨hs2, hs3⟩ := List.mem_filter.mp hs1
            obtain ⟨q1, q2, q3⟩ := sgns_mem l40 hs2
            exact app s0 (isNm_iff.mpr ⟨q1, by omega, q3⟩) (by simpa using hs3)
          · exact ⟨_, rfl, app tag ht (by simpa using hm)⟩
      · rintro σ H9 ⟨xs, y1, y2, y3, y4, rfl, g9, e1, e2, nm, lx⟩
        exact ⟨_, rfl, q R xs H9 nm (by omega) freeR e2 g9⟩
end
end Th
namespace Th
open PySem PySem.Spec PyProof.Rows L2
abbrev s_l_odd : Stmt := topS 20
theorem sc_l_odd : FnScope ["_law_state"] ["_law_state"] (defScope s_l_odd) := ⟨rfl, rfl, rfl, by decide +kernel, rfl, by decide +kernel, by decide +kernel⟩
/-- the second argument of the call that a def hands back -/
def argE (s : Stmt) : Expr := match defBody s with
  | [.Return (some (.Call _ [_, e] _ _)) _] => e
  | _ => .Constant .none 0 ⟨0, 0, 0, 0⟩
def spOdd (K : PySem.W.Frag) : Sp := fun vs H Q _ => ∃ (D : DS), vs = [.ref D.p] ∧ Drw D H ∧ ∀ (v : V) (d : PyData) H', d ∈ odds → Go D H H' → Da K (hid D.p H') v d → Q v H'
section
variable {P : Program} {w : World} {K : PySem.W.Frag} {mg : Str → Option Value} {base : Heap}
theorem has_l_odd (Z : Zs mg) (A : At K mg "_law_odd" s_l_odd ["_law_state"]) (h_l_pick : Has P w K mg base "_law_pick" s_l_pick 2 ["_law_state", "_law_pool"] (spPick K)) : Has P w K mg base "_law_odd" s_l_odd 3 ["_law_state"] (spOdd K) := by
  obtain ⟨f, fd, F, mg1, bd⟩ := A
  obtain ⟨f_l_pick, fd_l_pick, G_l_pick, m_l_pick, k_l_pick, b_l_pick, F_l_pick⟩ := h_l_pick
  refine ⟨f, fd, ?_, mg1, F.kp, bd, F⟩
  refine F.ok sc_l_odd (fun vs H Q E h => ?_) (fun cdv A outer s H vs Q E hr h => ?_)
  · obtain ⟨D, rfl, _⟩ := h
    rfl
  · obtain ⟨D, rfl, d, q⟩ := h
    obtain ⟨t, pe, lit, _⟩ := litE_ok (K := K) (X := (cxOf CX0 P w K mg base ["_law_state"] "_law_odd" (defScope s_l_odd) f cdv A outer s H E).nox) 3 (argE s_l_odd) (.list odds) (by kernel_rfl)
    refine ⟨_, (pss_one (ps_ret (pe_call G_l_pick (hr.mono (by decide)) (by rfl) m_l_pick k_l_pick b_l_pick .nil pass0 (pa_cons (pv 0) (pa_cons pe pa_nil))))), ?_⟩
    refine ⟨_, rfl, lit D _ H _ d fun v H1 g1 r => ?_⟩
    cases r with
    | lst hs ht ha =>
      have lv := ha.len
      have l35 : odds.length = 35 := rfl
      refine ⟨D, _, _, rfl, g1.st, hs, by omega, by omega, fun i v H2 hv g3 => ?_⟩
      obtain ⟨e, he, re⟩ := ha.at hv
      exact q v e H2 (List.mem_of_getElem? he) (g1.trans g3) (re.to g3.sm)
end
end Th
namespace Th
open PySem PySem.Spec PyProof.Rows L2
abbrev s_l_same : Stmt := topS 22
theorem sc_l_same : FnScope ["_law_got", "_law_due", "_law_k"] ["_law_got", "_law_due"] (defScope s_l_same) := ⟨rfl, rfl, rfl, by decide +kernel, rfl, by decide +kernel, by decide +kernel⟩

/-- two values of the same datum are told to be the same -/
def spSm (K : PySem.W.Frag) (n : Nat) : Sp := fun vs H Q _ => ∃ (v u : V) (d : PyData), vs = [v, u] ∧ Da K H v d ∧ Da K H u d ∧ LvN n d ∧ ∀ H', Same H H' → Q (.bl true) H'
section
variable {P : Program} {w : World} {K : PySem.W.Frag} {mg : Str → Option Value} {base : Heap}
theorem same_step (Z : Zs mg) {f : Addr} {fd : FuncData} (F : Fun K "_law_same" "_law_same" s_l_same f fd) (m_l_same : mg "_law_same" = some (.ref f)) (b_l_same : Binds K fd ["_law_got", "_law_due"] []) (k : Nat)
    (G_l_same : FnOk P w K mg base CX0 k f fd ["_law_got", "_law_due"] (spSm K k)) : FnOk P w K mg base CX0 (k + 1) f fd ["_law_got", "_law_due"] (spSm K (k + 1)) := by
  have k_l_same := F.kp
  refine F.ok sc_l_same (fun vs H Q E h => ?_) (fun cdv A outer s H vs Q E hr h => ?_)
  · obtain ⟨v, u, d, rfl, _⟩ := h
    rfl
  · obtain ⟨v, u, d, rfl, rv, ru, lv, q⟩ := h
    have lv : Lv k d := lv
    have nd := rv.nodict
    refine ⟨_, (pss_cons (ps_if (pt_val (pe_callB (show CallR _ (.builtin "isinstance") (rIsiT K) from call_isiT) (by rfl) Z.isinstance_ (by decide +kernel) (pa_cons (pv 1) (pa_cons (pe_tup (pa_cons (pe_bltn (v := .ty "list") (by rfl) Z.list_ (by decide +kernel) rfl) (pa_cons (pe_bltn (v := .ty "tuple") (by rfl) Z.tuple_ (by decide +kernel) rfl) pa_nil))) pa_nil)))) (pss_cons (ps_if (PW.pt (pw_or (pt_cmpR op_ne (pe_callB call_isi (by rfl) Z.isinstance_ (by decide +kernel) (pa_cons (pv 0) (pa_cons (pe_bltn (v := .ty "list") (by rfl) Z.list_ (by decide +kernel) rfl) pa_nil))) (pe_callB call_isi (by rfl) Z.isinstance_ (by decide +kernel) (pa_cons (pv 1) (pa_cons (pe_bltn (v := .ty "list") (by rfl) Z.list_ (by decide +kernel) rfl) pa_nil))) (nomark _)) (pw_or1 (pt_cmpR op_ne (pe_callB call_isi (by rfl) Z.isinstance_ (by decide +kernel) (pa_cons (pv 0) (pa_cons (pe_bltn (v := .ty "tuple") (by rfl) Z.tuple_ (by decide +kernel) rfl) pa_nil))) (pe_callB call_isi (by rfl) Z.isinstance_ (by decide +kernel) (pa_cons (pv 1) (pa_cons (pe_bltn (v := .ty "tuple") (by rfl) Z.tuple_ (by decide +kernel) rfl) pa_nil))) (nomark _))))) (pss_one (ps_ret pe_bl)) pss_nil) (pss_one (ps_ret (pe_and (pe_cmpR op_eq (pe_callB call_len_seq (by rfl) Z.len_ (by decide +kernel) (pa_cons (pv 0) pa_nil)) (pe_callB call_len_seq (by rfl) Z.len_ (by decide +kernel) (pa_cons (pv 1) pa_nil)) (nomark _)) (pe_one (pe_callB (cr_all rfl) (by rfl) Z.all_ (by decide +kernel) (pa_cons (pe_lc (own := [("_law_k", 2)]) (g := gName 2) (by rfl) sc_l_same.nd (pi_range1 (by rfl) Z.range_ (pa_cons (pe_callB call_len_seq (by rfl) Z.len_ (by decide +kernel) (pa_cons (pv 1) pa_nil)) pa_nil)) (blkOk_by (own := [("_law_k", 2)]) (N := ["_law_got", "_law_due", "_law_k"]) (sc := defScope s_l_same) (by decide +kernel)) (fun _ _ _ _ _ => pg_name (i := 2) sc_l_same.nd rfl (Or.inl rfl)) (fun _ _ _ _ _ => pts_nil) (fun _ _ _ _ _ => (pe_call G_l_same (hr.mono (Nat.le_refl _)) (by rfl) m_l_same k_l_same b_l_same .nil pass0 (pa_cons (pe_ix (show IxR _ (rIx K) from ix_seq) (pv 0) (pv 2) (fun _ _ => rfl)) (pa_cons (pe_ix (show IxR _ (rIx K) from ix_seq) (pv 1) (pv 2) (fun _ _ => rfl)) pa_nil))))) pa_nil))))))) pss_nil) (pss_cons (ps_if (PW.pt (pw_or (pt_cmpR op_isN (pv 1) pe_non (nomark _)) (pw_or1 (pt_cmpR op_isN (pv 0) pe_non (nomark _))))) (pss_one (ps_ret (pe_and (pe_cmpR op_isN (pv 1) pe_non (nomark _)) (pe_one (pe_cmpR op_isN (pv 0) pe_non (nomark _)))))) pss_nil) (pss_cons (ps_if (PW.pt (pw_or (pt_val (pe_callB call_isi (by rfl) Z.isinstance_ (by decide +kernel) (pa_cons (pv 1) (pa_cons (pe_bltn (v := .ty "bool") (by rfl) Z.bool_ (by decide +kernel) rfl) pa_nil)))) (pw_or1 (pt_val (pe_callB call_isi (by rfl) Z.isinstance_ (by decide +kernel) (pa_cons (pv 0) (pa_cons (pe_bltn (v := .ty "bool") (by rfl) Z.bool_ (by decide +kernel) rfl) pa_nil))))))) (pss_one (ps_ret (pe_and (pe_callB call_isi (by rfl) Z.isinstance_ (by decide +kernel) (pa_cons (pv 1) (pa_cons (pe_bltn (v := .ty "bool") (by rfl) Z.bool_ (by decide +kernel) rfl) pa_nil))) (pe_and (pe_callB call_isi (by rfl) Z.isinstance_ (by decide +kernel) (pa_cons (pv 0) (pa_cons (pe_bltn (v := .ty "bool") (by rfl) Z.bool_ (by decide +kernel) rfl) pa_nil))) (pe_one (pe_cmpR op_eq (pv 0) (pv 1) (nomark _))))))) pss_nil) (pss_cons (ps_if (pt_val (pe_callB call_isi (by rfl) Z.isinstance_ (by decide +kernel) (pa_cons (pv 1) (pa_cons (pe_bltn (v := .ty "int") (by rfl) Z.int_ (by decide +kernel) rfl) pa_nil)))) (pss_one (ps_ret (pe_and (pe_callB call_isi (by rfl) Z.isinstance_ (by decide +kernel) (pa_cons (pv 0) (pa_cons (pe_bltn (v := .ty "int") (by rfl) Z.int_ (by decide +kernel) rfl) pa_nil))) (pe_one (pe_cmpR op_eq (pv 0) (pv 1) (nomark _)))))) pss_nil) (pss_one (ps_ret (pe_and (pe_callB call_isi (by rfl) Z.isinstance_ (by decide +kernel) (pa_cons (pv 1) (pa_cons (pe_bltn (v := .ty "str") (by rfl) Z.str_ (by decide +kernel) rfl) pa_nil))) (pe_and (pe_callB call_isi (by rfl) Z.isinstance_ (by decide +kernel) (pa_cons (pv 0) (pa_cons (pe_bltn (v := .ty "str") (by rfl) Z.str_ (by decide +kernel) rfl) pa_nil))) (pe_one (pe_cmpR op_eq (pv 0) (pv 1) (nomark _))))))))))), ?_⟩
    refine ⟨_, rfl, (by show 2 ≤ sizeLine; decide), fun t nt => ⟨u, t, _, _, _, _, rfl, upd_same, .cons (.ty _) (.cons (.ty _) .nil), ty_same (same_new nt) ru.ty, kit_lt d nd, _, rfl, ?_⟩⟩
    have s0 : Same H (upd H t (.tup [.ty "list", .ty "tuple"])) := same_new nt
    generalize upd H t (.tup [.ty "list", .ty "tuple"]) = H1 at s0 ⊢
    have rv1 := rv.to s0
    have ru1 := ru.to s0
    by_cases hseq : tyD d = "list" ∨ tyD d = "tuple"
    · -- the kinds, the lengths, then the items
      rw [decide_eq_true hseq]
      refine iteT ?_
      refine ⟨_, rfl, v, _, _, _, _, rfl, .ty "list", rv1.ty, kit_ty (kit_list d nd), _, rfl, u, _, _, _, _, rfl, .ty "list", ru1.ty, kit_ty (kit_list d nd), rfl, _, rfl, ?_⟩
      refine iteNS rfl ?_
      refine ⟨_, rfl, v, _, _, _, _, rfl, .ty "tuple", rv1.ty, kit_ty (kit_tuple d nd), _, rfl, u, _, _, _, _, rfl, .ty "tuple", ru1.ty, kit_ty (kit_tuple d nd), rfl, _, rfl, ?_⟩
      refine iteNS rfl ?_
      obtain ⟨p, r, xs, ys, ds, rfl, rfl, hp, hr2, rx, ry, hl, lvx⟩ := da_two rv1 ru1 hseq lv
      have l1 := rx.len
      have l2 := ry.len
      refine ⟨_, rfl, p, xs, rfl, hp, _, rfl, r, ys, rfl, hr2, rfl, _, rfl, ?_⟩
      refine ite2 (fun _ => ?_) (fun z => absurd (decide_eq_true (by rw [l1, l2])) z)
      refine ⟨_, rfl, r, ys, rfl, hr2, _, rfl, by omega, by omega, fun L nL => ?_⟩
      refine lc_range (lo := 0) (n := (ys.length : Int).toNat) (fun i H2 => Same H1 H2 ∧ H2 L = some (.lst ((List.replicate i true).map V.bl))) ⟨same_new nL, upd_same⟩ ?_ ?_
      · rintro i H2 hi ⟨s2, e2⟩
        have hi' : i < ys.length := by omega
        obtain ⟨x, hx⟩ : ∃ x, xs[i]? = some x := ⟨_, List.getElem?_eq_getElem (by omega)⟩
        obtain ⟨y, hy⟩ : ∃ y, ys[i]? = some y := ⟨_, List.getElem?_eq_getElem hi'⟩
        obtain ⟨e, he, re⟩ := rx.at hx
        obtain ⟨e', he', re'⟩ := ry.at hy
        rw [he] at he'
        cases he'
        refine ⟨rfl, _, rfl, _, rfl, ix_any (sq_any s2 hp) hx ⟨_, rfl, _, rfl, ix_any (sq_any s2 hr2) hy ⟨x, y, e, rfl, re.to s2, re'.to s2, lvx e (List.mem_of_getElem? he), fun H3 s3 => ?_⟩⟩⟩
        refine ⟨_, s3 _ _ e2, slineL (by rw [List.length_map, List.length_replicate]; omega), same_mut (s2.trans s3) nL, ?_⟩
        rw [upd_same, List.replicate_succ', List.map_append]
        rfl
      · rintro H2 ⟨s2, e2⟩
        refine ⟨L, _, rfl, .inl (.inl e2), ?_⟩
        have ea : (List.replicate (ys.length : Int).toNat true).all id = true := by
          rw [List.all_eq_true]
          intro b hb
          exact (List.mem_replicate.mp hb).2
        rw [ea]
        exact q H2 (s0.trans s2)
    rw [decide_eq_false hseq]
    refine iteF ?_
    have fin := q H1 s0
    cases d with
    | list ds => exact absurd (.inl rfl) hseq
    | tuple ds => exact absurd (.inr rfl) hseq
    | dict kvs => exact absurd rfl nd
    | none =>
      cases rv1
      cases ru1
      refine ⟨_, rfl, rfl, _, rfl, iteT ?_⟩
      exact ⟨_, rfl, rfl, _, rfl, iteT ⟨_, rfl, rfl, fin⟩⟩
    | bool b =>
      have hv : v = .bl b := by cases rv; rfl
      have hu : u = .bl b := by cases ru; rfl
      subst hv hu
      refine ⟨_, rfl, rfl, _, rfl, iteF ?_⟩
      refine ⟨_, rfl, rfl, _, rfl, iteF ?_⟩
      refine ⟨_, rfl, _, _, _, _, _, rfl, .ty "bool", ru1.ty, kit_ty (kit_bool _ nd), _, rfl, iteT ?_⟩
      refine ⟨_, rfl, _, _, _, _, _, rfl, .ty "bool", ru1.ty, kit_ty (kit_bool _ nd), _, rfl, iteT ?_⟩
      refine ⟨_, rfl, _, _, _, _, _, rfl, .ty "bool", rv1.ty, kit_ty (kit_bool _ nd), _, rfl, iteT ?_⟩
      refine ⟨_, rfl, _, rfl, rfl, ?_⟩
      rw [decide_eq_true rfl]
      exact fin
    | int b =>
      have hv : v = .int b := by cases rv; rfl
      have hu : u = .int b := by cases ru; rfl
      subst hv hu
      refine ⟨_, rfl, rfl, _, rfl, iteF ?_⟩
      refine ⟨_, rfl, rfl, _, rfl, iteF ?_⟩
      refine ⟨_, rfl, _, _, _, _, _, rfl, .ty "bool", ru1.ty, kit_ty (kit_bool _ nd), _, rfl, iteF ?_⟩
      refine ⟨_, rfl, _, _, _, _, _, rfl, .ty "bool", rv1.ty, kit_ty (kit_bool _ nd), _, rfl, iteF ?_⟩
      refine ⟨_, rfl, _, _, _, _, _, rfl, .ty "int", ru1.ty, kit_ty (kit_int _ nd), _, rfl, iteT ?_⟩
      refine ⟨_, rfl, _, _, _, _, _, rfl, .ty "int", rv1.ty, kit_ty (kit_int _ nd), _, rfl, iteT ?_⟩
      refine ⟨_, rfl, _, rfl, rfl, ?_⟩
      rw [decide_eq_true rfl]
      exact fin
    | str b =>
      have hv : v = .str b := by cases rv; rfl
      have hu : u = .str b := by cases ru; rfl
      subst hv hu
      refine ⟨_, rfl, rfl, _, rfl, iteF ?_⟩
      refine ⟨_, rfl, rfl, _, rfl, iteF ?_⟩
      refine ⟨_, rfl, _, _, _, _, _, rfl, .ty "bool", ru1.ty, kit_ty (kit_bool _ nd), _, rfl, iteF ?_⟩
      refine ⟨_, rfl, _, _, _, _, _, rfl, .ty "bool", rv1.ty, kit_ty (kit_bool _ nd), _, rfl, iteF ?_⟩
      refine ⟨_, rfl, _, _, _, _, _, rfl, .ty "int", ru1.ty, kit_ty (kit_int _ nd), _, rfl, iteF ?_⟩
      refine ⟨_, rfl, _, _, _, _, _, rfl, .ty "str", ru1.ty, kit_ty (kit_str _ nd), _, rfl, iteT ?_⟩
      refine ⟨_, rfl, _, _, _, _, _, rfl, .ty "str", rv1.ty, kit_ty (kit_str _ nd), _, rfl, iteT ?_⟩
      refine ⟨_, rfl, _, rfl, rfl, ?_⟩
      rw [decide_eq_true rfl]
      exact fin
theorem has_l_same (Z : Zs mg) (A : At K mg "_law_same" s_l_same ["_law_got", "_law_due"]) : Has P w K mg base "_law_same" s_l_same 6 ["_law_got", "_law_due"] (spSm K 6) := by
  obtain ⟨f, fd, F, mg1, bd⟩ := A
  refine ⟨f, fd, ?_, mg1, F.kp, bd, F⟩
  have G0 : FnOk P w K mg base CX0 0 f fd ["_law_got", "_law_due"] (spSm K 0) := ⟨fun vs H Q E h => by obtain ⟨v, u, d, rfl, _⟩ := h; rfl, fun A outer s H args us vs Q E hr he hb hv hs => by obtain ⟨v, u, d, rfl, _, _, z, _⟩ := hs; exact z.elim⟩
  exact same_step Z F mg1 bd 5 (same_step Z F mg1 bd 4 (same_step Z F mg1 bd 3 (same_step Z F mg1 bd 2 (same_step Z F mg1 bd 1 (same_step Z F mg1 bd 0 G0)))))
end
end Th
namespace Th
open PySem PySem.Spec PyProof.Rows L2
abbrev s_l_is_name : Stmt := topS 23
theorem sc_l_is_name : FnScope ["_law_x", "_law_sign"] ["_law_x"] (defScope s_l_is_name) := ⟨rfl, rfl, rfl, by decide +kernel, rfl, by decide +kernel, by decide +kernel⟩

section
variable {P : Program} {w : World} {K : PySem.W.Frag} {mg : Str → Option Value} {base : Heap}
theorem has_l_is_name (n : Nat) (Z : Zs mg) (A : At K mg "_law_is_name" s_l_is_name ["_law_x"]) (h_l_letters : Has P w K mg base "_law_letters" s_l_letters 1 [] (spLetters)) : Has P w K mg base "_law_is_name" s_l_is_name 2 ["_law_x"] (spJ K n nmD) := by
  obtain ⟨f, fd, F, mg1, bd⟩ := A
  obtain ⟨f_l_letters, fd_l_letters, G_l_letters, m_l_letters, k_l_letters, b_l_letters, F_l_letters⟩ := h_l_letters
  refine ⟨f, fd, ?_, mg1, F.kp, bd, F⟩
  refine F.ok sc_l_is_name (fun vs H Q E h => ?_) (fun cdv A outer s H vs Q E hr h => ?_)
  · obtain ⟨v, d, rfl, _⟩ := h
    rfl
  · obtain ⟨v, d, rfl, r, lv, q⟩ := h
    refine ⟨_, (pss_one (ps_ret (pe_and (pe_callB call_isi (by rfl) Z.isinstance_ (by decide +kernel) (pa_cons (pv 0) (pa_cons (pe_bltn (v := .ty "str") (by rfl) Z.str_ (by decide +kernel) rfl) pa_nil))) (pe_and (pe_cmpR op_in_seq (pe_callB call_len_str (by rfl) Z.len_ (by decide +kernel) (pa_cons (pv 0) pa_nil)) (pe_tup (pa_cons pe_int (pa_cons pe_int (pa_cons pe_int (pa_cons pe_int (pa_cons pe_int (pa_cons pe_int pa_nil))))))) (by rfl)) (pe_one (pe_callB (cr_all rfl) (by rfl) Z.all_ (by decide +kernel) (pa_cons (pe_lc (own := [("_law_sign", 1)]) (g := gName 1) (by rfl) sc_l_is_name.nd (pi_str (pv 0)) (blkOk_by (own := [("_law_sign", 1)]) (N := ["_law_x", "_law_sign"]) (sc := defScope s_l_is_name) (by decide +kernel)) (fun _ _ _ _ _ => pg_name (i := 1) sc_l_is_name.nd rfl (Or.inl rfl)) (fun _ _ _ _ _ => pts_nil) (fun _ _ _ _ _ => (pe_cmpR op_in_sign (pv 1) (pe_call0 G_l_letters (hr.mono (by decide)) (by rfl) m_l_letters k_l_letters b_l_letters .nil pass0) (by rfl)))) pa_nil))))))), ?_⟩
    refine ⟨_, rfl, v, _, _, _, _, rfl, .ty "str", r.ty, kit_ty (kit_str d r.nodict), _, rfl, ?_⟩
    cases d with
    | str x =>
      have hv : v = .str x := by
        cases r
        rfl
      subst hv
      have hx : x.length ≤ 100000 := by
        cases n <;> exact lv.1
      refine iteT ?_
      refine ⟨_, rfl, _, rfl, sline hx, (by show 6 ≤ sizeLine; decide), fun u nu => ?_⟩
      refine ⟨u, _, rfl, .inr (.inl (.inl upd_same)), rfl, rfl, _, rfl, ?_⟩
      have ein : inV (.int (x.length : Int)) [V.int 1, .int 2, .int 3, .int 4, .int 5, .int 6] = (decide (1 ≤ x.length) && decide (x.length ≤ 6)) := by
        unfold inV
        rw [Bool.eq_iff_iff]
        simp only [List.any_cons, List.any_nil, Bool.or_false, Bool.or_eq_true, Bool.and_eq_true, decide_eq_true_eq, eqV, beq_iff_eq]
        omega
      have s1 := same_new (o := .tup [V.int 1, .int 2, .int 3, .int 4, .int 5, .int 6]) nu
      rw [ein, if_neg Bool.false_ne_true]
      refine ite2 (fun h1 => ?_) (fun h1 => ?_)
      · refine ⟨_, rfl, x, rfl, fun L nL => ?_⟩
        have s2' := s1.trans (same_new (o := .lst []) nL)
        refine lc_it (walk_str (z := x)) (fun i H2 => Same H H2 ∧ H2 L = some (.lst (((cs x).take i).map fun c => V.bl (decide (c ∈ cs abc))))) ⟨s2', upd_same⟩ (fun _ _ _ _ => trivial) ?_ ?_
        · rintro i y H2 H3 hi ⟨s2, e2⟩ ⟨rfl, c, hc, rfl⟩
          have hc' : (cs x)[i]? = some c := by
            unfold cs
            rw [Array.getElem?_toList]
            exact hc
          have hl := lt_of_get hc'
          rw [← cs_len] at hl
          refine ⟨rfl, _, rfl, rfl, c, abc, rfl, rfl, _, e2, slineL ?_, ?_⟩
          · rw [List.length_map, List.length_take]
            omega
          · refine ⟨same_mut s2 (s1.free nL), ?_⟩
            rw [upd_same, take_succ_map hc']
            rfl
        · rintro H2 ⟨s2, e2⟩
          have e3 : (cs x).take x.cps.size = cs x := List.take_of_length_le (by rw [← cs_len]; exact Nat.le_refl _)
          rw [e3] at e2
          refine ⟨L, (cs x).map fun c => decide (c ∈ cs abc), rfl, .inl (.inl (by rw [e2, List.map_map]; rfl)), ?_⟩
          have e4 : ((cs x).map fun c => decide (c ∈ cs abc)).all id = isNm x := by
            unfold isNm
            rw [h1, List.all_map]
            rfl
          rw [e4]
          exact q H2 s2
      · have e4 : isNm x = false := by
          unfold isNm
          cases z : (decide (1 ≤ x.length) && decide (x.length ≤ 6)) with
          | true => exact absurd z h1
          | false => rfl
        have q2 := q _ s1
        show Q (.bl false) _
        rw [show nmD (.str x) = false from e4] at q2
        exact q2
    | _ => exact iteF (q H (Same.refl H))
end
end Th
namespace Th
open PySem PySem.Spec PyProof.Rows L2
abbrev s_l_rising : Stmt := topS 24
theorem sc_l_rising : FnScope ["_law_some", "_law_k"] ["_law_some"] (defScope s_l_rising) := ⟨rfl, rfl, rfl, by decide +kernel, rfl, by decide +kernel, by decide +kernel⟩
def spRising (K : PySem.W.Frag) : Sp := fun vs H Q _ => ∃ (a : Addr) (zs : List Str), vs = [.ref a] ∧ SqT K H a (zs.map V.str) ∧ zs.length ≤ 1000 ∧ ∀ H', Same H H' → Q (.bl (risB zs)) H'
theorem ris_all : ∀ zs : List Str, risB zs = ((List.range (zs.length - 1)).map fun k => decide (cs (zs.getD k Str.empty) < cs (zs.getD (k + 1) Str.empty))).all id
  | [] => rfl
  | [x] => rfl
  | x :: y :: r => by
    have ih := ris_all (y :: r)
    show (decide (cs x < cs y) && risB (y :: r)) = _
    rw [ih, show (x :: y :: r).length - 1 = ((y :: r).length - 1) + 1 by simp, List.range_succ_eq_map, List.map_cons, List.map_map, List.all_cons]
    rfl
section
variable {P : Program} {w : World} {K : PySem.W.Frag} {mg : Str → Option Value} {base : Heap}
theorem has_l_rising (Z : Zs mg) (A : At K mg "_law_rising" s_l_rising ["_law_some"]) : Has P w K mg base "_law_rising" s_l_rising 1 ["_law_some"] (spRising K) := by
  obtain ⟨f, fd, F, mg1, bd⟩ := A
  refine ⟨f, fd, ?_, mg1, F.kp, bd, F⟩
  refine F.ok sc_l_rising (fun vs H Q E h => ?_) (fun cdv A outer s H vs Q E hr h => ?_)
  · obtain ⟨a, zs, rfl, _⟩ := h
    rfl
  · obtain ⟨a, zs, rfl, hs, hl, q⟩ := h
    refine ⟨_, (pss_one (ps_ret (pe_callB (cr_all rfl) (by rfl) Z.all_ (by decide +kernel) (pa_cons (pe_lc (own := [("_law_k", 1)]) (g := gName 1) (by rfl) sc_l_rising.nd (pi_range1 (by rfl) Z.range_ (pa_cons (pe_op op_sub (pe_callB call_len_seq (by rfl) Z.len_ (by decide +kernel) (pa_cons (pv 0) pa_nil)) pe_int) pa_nil)) (blkOk_by (own := [("_law_k", 1)]) (N := ["_law_some", "_law_k"]) (sc := defScope s_l_rising) (by decide +kernel)) (fun _ _ _ _ _ => pg_name (i := 1) sc_l_rising.nd rfl (Or.inl rfl)) (fun _ _ _ _ _ => pts_nil) (fun _ _ _ _ _ => (pe_cmpR op_lt_str (pe_ix (show IxR _ (rIxT K) from ix_tup) (pv 0) (pv 1) (fun _ _ => rfl)) (pe_ix (show IxR _ (rIxT K) from ix_tup) (pv 0) (pe_op op_add (pv 1) pe_int) (fun _ _ => rfl)) (nomark _)))) pa_nil)))), ?_⟩
    have lm : (zs.map V.str).length = zs.length := List.length_map _
    refine ⟨_, rfl, a, _, rfl, .inr hs, _, _, rfl, rfl, _, rfl, by omega, by omega, fun L nL => ?_⟩
    have en : (((zs.map V.str).length : Int) - 1).toNat = zs.length - 1 := by omega
    rw [en]
    refine lc_range (lo := 0) (n := zs.length - 1) (fun i H2 => Same H H2 ∧ H2 L = some (.lst ((List.range i).map fun k => V.bl (decide (cs (zs.getD k Str.empty) < cs (zs.getD (k + 1) Str.empty)))))) ⟨same_new nL, upd_same⟩ ?_ ?_
    · rintro i H2 hi ⟨s2, e2⟩
      have g1 : (zs.map V.str)[i]? = some (V.str (zs.getD i Str.empty)) := by
        rw [List.getElem?_map, List.getD_eq_getElem?_getD, List.getElem?_eq_getElem (by omega)]
        rfl
      have g2 : (zs.map V.str)[i + 1]? = some (V.str (zs.getD (i + 1) Str.empty)) := by
        rw [List.getElem?_map, List.getD_eq_getElem?_getD, List.getElem?_eq_getElem (by omega)]
        rfl
      refine ⟨rfl, _, rfl, _, rfl, a, _, _, _, rfl, rfl, same_t s2 hs, atI_of (by omega) (by rw [show ((0 : Int) + (i : Int)).toNat = i by omega]; exact g1), ?_⟩
      refine ⟨_, rfl, _, rfl, _, _, rfl, rfl, a, _, _, _, rfl, rfl, same_t s2 hs, atI_of (by omega) (by rw [show ((0 : Int) + (i : Int) + 1).toNat = i + 1 by omega]; exact g2), _, _, rfl, rfl, ?_⟩
      refine ⟨_, e2, slineL (by rw [List.length_map, List.length_range]; omega), same_mut s2 nL, ?_⟩
      rw [upd_same, mapr]
      rfl
    · rintro H2 ⟨s2, e2⟩
      refine ⟨L, (List.range (zs.length - 1)).map fun k => decide (cs (zs.getD k Str.empty) < cs (zs.getD (k + 1) Str.empty)), rfl, .inl (.inl (by rw [e2, List.map_map]; rfl)), ?_⟩
      rw [← ris_all]
      exact q H2 s2
end
end Th
namespace Th
open PySem PySem.Spec PyProof.Rows L2
abbrev s_l_is_lot : Stmt := topS 25
theorem sc_l_is_lot : FnScope ["_law_x", "_law_tag"] ["_law_x"] (defScope s_l_is_lot) := ⟨rfl, rfl, rfl, by decide +kernel, rfl, by decide +kernel, by decide +kernel⟩

section
variable {P : Program} {w : World} {K : PySem.W.Frag} {mg : Str → Option Value} {base : Heap}
theorem has_l_is_lot (Z : Zs mg) (A : At K mg "_law_is_lot" s_l_is_lot ["_law_x"]) (h_l_is_name : Has P w K mg base "_law_is_name" s_l_is_name 2 ["_law_x"] (spJ K 3 nmD)) (h_l_rising : Has P w K mg base "_law_rising" s_l_rising 1 ["_law_some"] (spRising K)) : Has P w K mg base "_law_is_lot" s_l_is_lot 3 ["_law_x"] (spJ K 4 lotD) := by
  obtain ⟨f, fd, F, mg1, bd⟩ := A
  obtain ⟨f_l_is_name, fd_l_is_name, G_l_is_name, m_l_is_name, k_l_is_name, b_l_is_name, F_l_is_name⟩ := h_l_is_name
  obtain ⟨f_l_rising, fd_l_rising, G_l_rising, m_l_rising, k_l_rising, b_l_rising, F_l_rising⟩ := h_l_rising
  refine ⟨f, fd, ?_, mg1, F.kp, bd, F⟩
  refine F.ok sc_l_is_lot (fun vs H Q E h => ?_) (fun cdv A outer s H vs Q E hr h => ?_)
  · obtain ⟨v, d, rfl, _⟩ := h
    rfl
  · obtain ⟨v, d, rfl, r, lv, q⟩ := h
    have nd := r.nodict
    refine ⟨_, (pss_cons (ps_if (PW.pt (pw_or (pt_not (pt_val (pe_callB call_isi (by rfl) Z.isinstance_ (by decide +kernel) (pa_cons (pv 0) (pa_cons (pe_bltn (v := .ty "tuple") (by rfl) Z.tuple_ (by decide +kernel) rfl) pa_nil))))) (pw_or (pt_cmpR op_eq (pe_callB call_len_seq (by rfl) Z.len_ (by decide +kernel) (pa_cons (pv 0) pa_nil)) pe_int (nomark _)) (pw_or1 (pt_not (pt_val (pe_callB (cr_all rfl) (by rfl) Z.all_ (by decide +kernel) (pa_cons (pe_lc (own := [("_law_tag", 1)]) (g := gName 1) (by rfl) sc_l_is_lot.nd (pi_tup (pv 0)) (blkOk_by (own := [("_law_tag", 1)]) (N := ["_law_x", "_law_tag"]) (sc := defScope s_l_is_lot) (by decide +kernel)) (fun _ _ _ _ _ => pg_name (i := 1) sc_l_is_lot.nd rfl (Or.inl rfl)) (fun _ _ _ _ _ => pts_nil) (fun _ _ _ _ _ => (pe_call G_l_is_name (hr.mono (by decide)) (by rfl) m_l_is_name k_l_is_name b_l_is_name .nil pass0 (pa_cons (pv 1) pa_nil)))) pa_nil)))))))) (pss_one (ps_ret pe_bl)) pss_nil) (pss_one (ps_ret (pe_call G_l_rising (hr.mono (by decide)) (by rfl) m_l_rising k_l_rising b_l_rising .nil pass0 (pa_cons (pv 0) pa_nil))))), ?_⟩
    refine ⟨_, rfl, v, _, _, _, _, rfl, .ty "tuple", r.ty, kit_ty (kit_tuple d nd), _, rfl, ?_⟩
    cases d with
    | tuple ds =>
      cases r with
      | tup hs ht ra =>
        rename_i a xs
        have hl := ra.len
        have hl2 : ds.length ≤ 60 := lv.1
        refine iteF ?_
        refine ⟨_, rfl, a, xs, rfl, .inr hs, rfl, _, rfl, ?_⟩
        refine ite2 (fun h0 => ?_) (fun h0 => ?_)
        · have e0 : ds = [] := by
            have z : ((xs.length : Nat) : Int) = 0 := V.int.inj (of_decide_eq_true h0)
            exact List.length_eq_zero_iff.mp (by omega)
          subst e0
          exact iteT (q H (Same.refl H))
        · have ne0 : ds.isEmpty = false := by
            cases ds with
            | nil => exact absurd (decide_eq_true (by rw [hl]; rfl)) h0
            | cons _ _ => rfl
          refine ⟨_, rfl, a, rfl, ⟨xs, hs⟩, fun L nL => ?_⟩
          refine lc_tup (K := K) (a := a) (xs := xs) (fun i H2 => Same H H2 ∧ H2 L = some (.lst ((ds.take i).map fun d => V.bl (nmD d)))) ⟨same_new nL, upd_same⟩ (fun i H2 _ z => same_t z.1 hs) ?_ ?_
          · rintro i v H2 hi ⟨s2, e2⟩
            obtain ⟨d, hd, rd⟩ := ra.at hi
            refine ⟨rfl, _, rfl, v, d, rfl, rd.to s2, lv_in lv (List.mem_of_getElem? hd), fun H3 s3 => ?_⟩
            refine ⟨_, s3 _ _ e2, slineL (by rw [List.length_map, List.length_take]; omega), same_mut (s2.trans s3) nL, ?_⟩
            rw [upd_same, take_succ_map hd]
          · rintro H2 ⟨s2, e2⟩
            rw [hl, List.take_length] at e2
            refine ⟨L, ds.map nmD, rfl, .inl (.inl (by rw [e2, List.map_map]; rfl)), _, rfl, ?_⟩
            rw [show (ds.map nmD).all id = ds.all nmD by rw [List.all_map]; rfl]
            cases hn : ds.all nmD with
            | false =>
              refine iteT ?_
              have q1 := q H2 s2
              rw [show lotD (.tuple ds) = false by rw [lotD_tup, hn, Bool.and_false, Bool.false_and]] at q1
              exact q1
            | true =>
              refine iteF ?_
              have es := nms_strs hn
              generalize hx : ds.map strD = zs at es
              have ra' : DaAll K H xs (zs.map .str) := by rw [← es]; exact ra
              have exs := ra'.isStrs
              subst exs
              have lz : zs.length ≤ 60 := by rw [← hx, List.length_map]; exact hl2
              refine ⟨_, rfl, a, zs, rfl, same_t s2 hs, by omega, fun H3 s3 => ?_⟩
              have q1 := q H3 (s2.trans s3)
              rw [lotD_tup, ne0, hn, hx] at q1
              exact q1
    | _ => exact iteT (iteT (q H (Same.refl H)))
end
end Th
namespace Th
open PySem PySem.Spec PyProof.Rows L2
abbrev s_l_is_said : Stmt := topS 26
theorem sc_l_is_said : FnScope ["_law_x", "_law_part"] ["_law_x"] (defScope s_l_is_said) := ⟨rfl, rfl, rfl, by decide +kernel, rfl, by decide +kernel, by decide +kernel⟩
theorem stD_str (h : Str) (r : List PyData) : stD (.tuple (.str h :: r)) = if h = "lot" then (r.length == 1 && r.all lotD) else if h = "before" then (r.length == 2 && r.all nmD) else (decide (h = "never") && r.isEmpty) := rfl
theorem cut1U (xs : List V) : cutV xs (some 1) none = xs.drop 1 := by
  unfold cutV
  rw [show HT.sIx xs.length 0 (some 1) = min 1 xs.length from HT.sIx_nat xs.length 0 1, HT.sIx_none]
  cases xs with
  | nil => rfl
  | cons x r =>
    rw [show min 1 (x :: r).length = 1 by rw [List.length_cons]; omega]
    show (List.take ((x :: r).length - 1) r) = r
    rw [List.length_cons, Nat.add_sub_cancel]
    exact List.take_length
section
variable {P : Program} {w : World} {K : PySem.W.Frag} {mg : Str → Option Value} {base : Heap}
theorem has_l_is_said (Z : Zs mg) (A : At K mg "_law_is_said" s_l_is_said ["_law_x"]) (h_l_is_lot : Has P w K mg base "_law_is_lot" s_l_is_lot 3 ["_law_x"] (spJ K 4 lotD)) (h_l_is_name : Has P w K mg base "_law_is_name" s_l_is_name 2 ["_law_x"] (spJ K 4 nmD)) : Has P w K mg base "_law_is_said" s_l_is_said 4 ["_law_x"] (spJ K 5 stD) := by
  obtain ⟨f, fd, F, mg1, bd⟩ := A
  obtain ⟨f_l_is_lot, fd_l_is_lot, G_l_is_lot, m_l_is_lot, k_l_is_lot, b_l_is_lot, F_l_is_lot⟩ := h_l_is_lot
  obtain ⟨f_l_is_name, fd_l_is_name, G_l_is_name, m_l_is_name, k_l_is_name, b_l_is_name, F_l_is_name⟩ := h_l_is_name
  refine ⟨f, fd, ?_, mg1, F.kp, bd, F⟩
  refine F.ok sc_l_is_said (fun vs H Q E h => ?_) (fun cdv A outer s H vs Q E hr h => ?_)
  · obtain ⟨v, d, rfl, _⟩ := h
    rfl
  · obtain ⟨v, d, rfl, r, lv, q⟩ := h
    have nd := r.nodict
    refine ⟨_, (pss_cons (ps_if (PW.pt (pw_or (pt_not (pt_val (pe_callB call_isi (by rfl) Z.isinstance_ (by decide +kernel) (pa_cons (pv 0) (pa_cons (pe_bltn (v := .ty "tuple") (by rfl) Z.tuple_ (by decide +kernel) rfl) pa_nil))))) (pw_or (pt_cmpR op_eq (pe_callB call_len_seq (by rfl) Z.len_ (by decide +kernel) (pa_cons (pv 0) pa_nil)) pe_int (nomark _)) (pw_or1 (pt_not (pt_val (pe_callB call_isi (by rfl) Z.isinstance_ (by decide +kernel) (pa_cons (pe_ix ix_tup (pv 0) pe_int (fun _ _ => rfl)) (pa_cons (pe_bltn (v := .ty "str") (by rfl) Z.str_ (by decide +kernel) rfl) pa_nil))))))))) (pss_one (ps_ret pe_bl)) pss_nil) (pss_cons (ps_if (pt_cmpR op_eq (pe_ix ix_tup (pv 0) pe_int (fun _ _ => rfl)) pe_str (nomark _)) (pss_one (ps_ret (pe_and (pe_cmpR op_eq (pe_callB call_len_seq (by rfl) Z.len_ (by decide +kernel) (pa_cons (pv 0) pa_nil)) pe_int (nomark _)) (pe_one (pe_call G_l_is_lot (hr.mono (by decide)) (by rfl) m_l_is_lot k_l_is_lot b_l_is_lot .nil pass0 (pa_cons (pe_ix ix_tup (pv 0) pe_int (fun _ _ => rfl)) pa_nil)))))) pss_nil) (pss_cons (ps_if (pt_cmpR op_eq (pe_ix ix_tup (pv 0) pe_int (fun _ _ => rfl)) pe_str (nomark _)) (pss_one (ps_ret (pe_and (pe_cmpR op_eq (pe_callB call_len_seq (by rfl) Z.len_ (by decide +kernel) (pa_cons (pv 0) pa_nil)) pe_int (nomark _)) (pe_one (pe_callB (cr_all rfl) (by rfl) Z.all_ (by decide +kernel) (pa_cons (pe_lc (own := [("_law_part", 1)]) (g := gName 1) (by rfl) sc_l_is_said.nd (pi_tup (pe_slice sl_tup (pv 0) (po_some pe_int) po_none)) (blkOk_by (own := [("_law_part", 1)]) (N := ["_law_x", "_law_part"]) (sc := defScope s_l_is_said) (by decide +kernel)) (fun _ _ _ _ _ => pg_name (i := 1) sc_l_is_said.nd rfl (Or.inl rfl)) (fun _ _ _ _ _ => pts_nil) (fun _ _ _ _ _ => (pe_call G_l_is_name (hr.mono (by decide)) (by rfl) m_l_is_name k_l_is_name b_l_is_name .nil pass0 (pa_cons (pv 1) pa_nil)))) pa_nil)))))) pss_nil) (pss_one (ps_ret (pe_and (pe_cmpR op_eq (pe_ix ix_tup (pv 0) pe_int (fun _ _ => rfl)) pe_str (nomark _)) (pe_one (pe_cmpR op_eq (pe_callB call_len_seq (by rfl) Z.len_ (by decide +kernel) (pa_cons (pv 0) pa_nil)) pe_int (nomark _))))))))), ?_⟩
    refine ⟨_, rfl, v, _, _, _, _, rfl, .ty "tuple", r.ty, kit_ty (kit_tuple d nd), _, rfl, ?_⟩
    cases d with
    | tuple ds =>
      cases r with
      | tup hs ht ra =>
        rename_i a xs
        have hl := ra.len
        have hl2 : ds.length ≤ 60 := lv.1
        refine iteF ?_
        refine ⟨_, rfl, a, xs, rfl, .inr hs, rfl, _, rfl, ?_⟩
        cases ds with
        | nil =>
          rw [hl, show decide (V.int (([] : List PyData).length : Int) = V.int 0) = true from decide_eq_true rfl]
          exact iteT (iteT (q H (Same.refl H)))
        | cons d r =>
          have hl' : xs.length = r.length + 1 := hl
          refine ite2 (fun z => ?_) (fun _ => ?_)
          · have z : ((xs.length : Nat) : Int) = 0 := V.int.inj (of_decide_eq_true z)
            omega
          obtain ⟨v, hv, rv⟩ := ra.at' (i := 0) (d := d) rfl
          refine ⟨_, rfl, a, xs, 0, v, rfl, rfl, hs, atI_of (by decide) hv, v, _, _, _, _, rfl, .ty "str", rv.ty, kit_ty (kit_str d rv.nodict), _, rfl, ?_⟩
          cases d with
          | str h =>
            refine iteF ?_
            have hvv : v = .str h := by cases rv; rfl
            subst hvv
            refine ⟨_, rfl, a, xs, 0, _, rfl, rfl, hs, atI_of (by decide) hv, rfl, _, rfl, ?_⟩
            rw [stD_str] at q
            refine ite2 (fun hb => ?_) (fun hb => ?_)
            · have hb' : h = "lot" := V.str.inj (of_decide_eq_true hb)
              rw [if_pos hb'] at q
              refine ⟨_, rfl, a, xs, rfl, .inr hs, rfl, _, rfl, ?_⟩
              refine ite2 (fun h2 => ?_) (fun h2 => ?_)
              · have z : ((xs.length : Nat) : Int) = 2 := V.int.inj (of_decide_eq_true h2)
                obtain ⟨x, rfl⟩ : ∃ x, r = [x] := by
                  cases r with
                  | nil => rw [List.length_nil] at hl'; omega
                  | cons x t =>
                    cases t with
                    | nil => exact ⟨x, rfl⟩
                    | cons y t => rw [List.length_cons, List.length_cons] at hl'; omega
                obtain ⟨u, hu, ru⟩ := ra.at' (i := 1) (d := x) rfl
                refine ⟨_, rfl, a, xs, 1, u, rfl, rfl, hs, atI_of (by decide) hu, u, x, rfl, ru, lv_in lv (List.mem_cons_of_mem _ List.mem_cons_self), fun H1 s1 => ?_⟩
                have q1 := q H1 s1
                rw [show (([x] : List PyData).length == 1 && [x].all lotD) = lotD x by simp] at q1
                exact q1
              · have q1 := q H (Same.refl H)
                have l1 : ¬ r.length = 1 := fun z => h2 (decide_eq_true (by rw [hl', z]; rfl))
                rw [show (r.length == 1) = false from beq_eq_false_iff_ne.mpr l1, Bool.false_and] at q1
                exact q1
            · have hb' : ¬ h = "lot" := fun z => hb (decide_eq_true (by rw [z]))
              rw [if_neg hb'] at q
              refine ⟨_, rfl, a, xs, 0, _, rfl, rfl, hs, atI_of (by decide) hv, rfl, _, rfl, ?_⟩
              refine ite2 (fun hc => ?_) (fun hc => ?_)
              · have hc' : h = "before" := V.str.inj (of_decide_eq_true hc)
                rw [if_pos hc'] at q
                refine ⟨_, rfl, a, xs, rfl, .inr hs, rfl, _, rfl, ?_⟩
                refine ite2 (fun h3 => ?_) (fun h3 => ?_)
                · have z : ((xs.length : Nat) : Int) = 3 := V.int.inj (of_decide_eq_true h3)
                  have l3 : r.length = 2 := by omega
                  refine ⟨_, rfl, 1, rfl, a, xs, rfl, hs, ?_, fun p np => ?_⟩
                  · rw [show HT.sIx xs.length 0 (some 1) = min 1 xs.length from HT.sIx_nat xs.length 0 1]
                    omega
                  · rw [cut1U]
                    have rb := (ra.drop 1).to (same_new (o := .tup (xs.drop 1)) np)
                    have s1 : Same H (upd H p (.tup (xs.drop 1))) := same_new np
                    have ep : (upd H p (.tup (xs.drop 1))) p = some (.tup (xs.drop 1)) := upd_same
                    generalize upd H p (.tup (xs.drop 1)) = H1 at rb s1 ep ⊢
                    have rb : DaAll K H1 (xs.drop 1) r := rb
                    refine ⟨p, rfl, ⟨_, .inl (.inl ep)⟩, fun L nL => ?_⟩
                    refine lc_tup (K := K) (a := p) (xs := xs.drop 1) (fun i H2 => Same H1 H2 ∧ H2 L = some (.lst ((r.take i).map fun d => V.bl (nmD d)))) ⟨same_new nL, upd_same⟩ (fun i H2 _ z => .inl (.inl (z.1 _ _ ep))) ?_ ?_
                    · rintro i v H2 hi ⟨s2, e2⟩
                      obtain ⟨d, hd, rd⟩ := rb.at hi
                      refine ⟨rfl, _, rfl, v, d, rfl, rd.to s2, lv_in lv (List.mem_cons_of_mem _ (List.mem_of_getElem? hd)), fun H3 s3 => ?_⟩
                      refine ⟨_, s3 _ _ e2, slineL (by rw [List.length_map, List.length_take]; omega), same_mut (s2.trans s3) nL, ?_⟩
                      rw [upd_same, take_succ_map hd]
                    · rintro H2 ⟨s2, e2⟩
                      rw [rb.len, List.take_length] at e2
                      refine ⟨L, r.map nmD, rfl, .inl (.inl (by rw [e2, List.map_map]; rfl)), ?_⟩
                      have q1 := q H2 (s1.trans s2)
                      rw [l3] at q1
                      rw [show (r.map nmD).all id = r.all nmD by rw [List.all_map]; rfl]
                      exact q1
                · have q1 := q H (Same.refl H)
                  have l3 : ¬ r.length = 2 := fun z => h3 (decide_eq_true (by rw [hl', z]; rfl))
                  rw [show (r.length == 2) = false from beq_eq_false_iff_ne.mpr l3, Bool.false_and] at q1
                  exact q1
              · have hc' : ¬ h = "before" := fun z => hc (decide_eq_true (by rw [z]))
                rw [if_neg hc'] at q
                refine ⟨_, rfl, a, xs, 0, _, rfl, rfl, hs, atI_of (by decide) hv, rfl, _, rfl, ?_⟩
                refine ite2 (fun hd => ?_) (fun hd => ?_)
                · have hd' : h = "never" := V.str.inj (of_decide_eq_true hd)
                  refine ⟨_, rfl, a, xs, rfl, .inr hs, rfl, ?_⟩
                  have q1 := q H (Same.refl H)
                  rw [decide_eq_true hd', Bool.true_and] at q1
                  have e : decide (V.int ((xs.length : Nat) : Int) = V.int 1) = r.isEmpty := by
                    rw [hl']
                    cases r with
                    | nil => rfl
                    | cons y t => rw [decide_eq_false (fun z => by have z := V.int.inj z; rw [List.length_cons] at z; omega)]; rfl
                  rw [e]
                  exact q1
                · have hd' : ¬ h = "never" := fun z => hd (decide_eq_true (by rw [z]))
                  have q1 := q H (Same.refl H)
                  rw [decide_eq_false hd', Bool.false_and] at q1
                  exact q1
          | _ => exact iteT (q H (Same.refl H))
    | _ => exact iteT (iteT (q H (Same.refl H)))
end
end Th
namespace Th
open PySem PySem.Spec PyProof.Rows L2
abbrev s_l_rules : Stmt := topS 28
theorem sc_l_rules : FnScope [] [] (defScope s_l_rules) := ⟨rfl, rfl, rfl, by decide +kernel, rfl, by decide +kernel, by decide +kernel⟩
def rulesD : List PyData := [.tuple [.str "single", .int 0], .tuple [.str "all", .int 0], .tuple [.str "word", .int 1], .tuple [.str "union", .int 2], .tuple [.str "common", .int 2], .tuple [.str "rest", .int 2], .tuple [.str "fact", .int 1],
  .tuple [.str "apart", .int 3], .tuple [.str "across", .int 3], .tuple [.str "chain", .int 2], .tuple [.str "bar", .int 3], .tuple [.str "self", .int 1]]
def spRules (K : PySem.W.Frag) : Sp := fun vs H Q _ => ∃ D : DS, vs = [] ∧ Drw D H ∧ ∀ v H', Go D H H' → Da K (hid D.p H') v (.list rulesD) → Q v H'
def retE (s : Stmt) : Expr := match defBody s with
  | [.Return (some e) _] => e
  | _ => .Constant .none 0 ⟨0, 0, 0, 0⟩
section
variable {P : Program} {w : World} {K : PySem.W.Frag} {mg : Str → Option Value} {base : Heap}
theorem has_l_rules (Z : Zs mg) (A : At K mg "_law_rules" s_l_rules []) : Has P w K mg base "_law_rules" s_l_rules 1 [] (spRules K) := by
  obtain ⟨f, fd, F, mg1, bd⟩ := A
  refine ⟨f, fd, ?_, mg1, F.kp, bd, F⟩
  refine F.ok sc_l_rules (fun vs H Q E h => ?_) (fun cdv A outer s H vs Q E hr h => ?_)
  · obtain ⟨D, rfl, _⟩ := h
    rfl
  · obtain ⟨D, rfl, d, q⟩ := h
    obtain ⟨t, pe, lit, _⟩ := litE_ok (K := K) (X := (cxOf CX0 P w K mg base [] "_law_rules" (defScope s_l_rules) f cdv A outer s H E).nox) 3 (retE s_l_rules) (.list rulesD) (by kernel_rfl)
    refine ⟨_, (pss_one (ps_ret pe)), ?_⟩
    exact lit D _ H _ d fun v H1 g1 r => q v H1 g1 r
end
end Th
namespace Th
open PySem PySem.Spec PyProof.Rows L2
abbrev s_l_subset : Stmt := topS 21
theorem sc_l_subset : FnScope ["_law_state", "_law_pool", "_law_limit", "_law_spare", "_law_bits", "_law_x", "_law_some", "_law_k"] ["_law_state", "_law_pool"] (defScope s_l_subset) := ⟨rfl, rfl, rfl, by decide +kernel, rfl, by decide +kernel, by decide +kernel⟩
/-- some of the names of a list, at least one, in order, in a new tuple -/
def spSubset (K : PySem.W.Frag) : Sp := fun vs H Q _ => ∃ (D : DS) (q : Addr) (xs : List Str), vs = [.ref D.p, .ref q] ∧ Drw D H ∧ SqL K (hid D.p H) q (xs.map V.str) ∧ 0 < xs.length ∧ xs.length ≤ 60 ∧ (∀ x ∈ xs, isNm x = true) ∧
  ∀ (r : Addr) (ys : List Str) H', ys ≠ [] → (∀ y ∈ ys, y ∈ xs) → (xs.Nodup → ys.Nodup) → ys.length ≤ xs.length → sortedS ys = true → H r = none → H' r = some (.tup (ys.map V.str)) → Go D H H' → Q (.ref r) H'
section
variable {P : Program} {w : World} {K : PySem.W.Frag} {mg : Str → Option Value} {base : Heap}
theorem has_l_subset (Z : Zs mg) (A : At K mg "_law_subset" s_l_subset ["_law_state", "_law_pool"]) (h_l_draw : Has P w K mg base "_law_draw" s_l_draw 1 ["_law_state", "_law_many"] (spDraw)) (h_l_pick : Has P w K mg base "_law_pick" s_l_pick 2 ["_law_state", "_law_pool"] (spPick K)) : Has P w K mg base "_law_subset" s_l_subset 3 ["_law_state", "_law_pool"] (spSubset K) := by
  obtain ⟨f, fd, F, mg1, bd⟩ := A
  obtain ⟨f_l_draw, fd_l_draw, G_l_draw, m_l_draw, k_l_draw, b_l_draw, F_l_draw⟩ := h_l_draw
  obtain ⟨f_l_pick, fd_l_pick, G_l_pick, m_l_pick, k_l_pick, b_l_pick, F_l_pick⟩ := h_l_pick
  refine ⟨f, fd, ?_, mg1, F.kp, bd, F⟩
  refine F.ok sc_l_subset (fun vs H Q E h => ?_) (fun cdv A outer s H vs Q E hr h => ?_)
  · obtain ⟨D, p, xs, rfl, _⟩ := h
    rfl
  · obtain ⟨D, p, xs, rfl, d, hS, h0, h1, hnm, q⟩ := h
    refine ⟨_, (pss_cons (ps_asg (pe_tup (pa_cons (pe_op op_add pe_int (pe_call G_l_draw (hr.mono (by decide)) (by rfl) m_l_draw k_l_draw b_l_draw .nil pass0 (pa_cons (pv 0) (pa_cons pe_int pa_nil)))) (pa_cons (pe_call G_l_pick (hr.mono (by decide)) (by rfl) m_l_pick k_l_pick b_l_pick .nil pass0 (pa_cons (pv 0) (pa_cons (pv 1) pa_nil))) pa_nil))) (pg_tup (by rfl) (pgs_cons (pg_name (i := 2) sc_l_subset.nd rfl (Or.inr rfl)) (pgs_cons (pg_name (i := 3) sc_l_subset.nd rfl (Or.inl rfl)) pgs_nil)))) (pss_cons (ps_set (i := 4) sc_l_subset.nd rfl (Or.inr rfl) (pe_lc (own := [("_law_x", 5)]) (g := gName 5) (by rfl) sc_l_subset.nd (pi_list (pv 1)) (blkOk_by (own := [("_law_x", 5)]) (N := ["_law_state", "_law_pool", "_law_limit", "_law_spare", "_law_bits", "_law_x", "_law_some", "_law_k"]) (sc := defScope s_l_subset) (by decide +kernel)) (fun _ _ _ _ _ => pg_name (i := 5) sc_l_subset.nd rfl (Or.inl rfl)) (fun _ _ _ _ _ => pts_nil) (fun _ _ _ _ _ => (pe_call G_l_draw (hr.mono (by decide)) (by rfl) m_l_draw k_l_draw b_l_draw .nil pass0 (pa_cons (pv 0) (pa_cons pe_int pa_nil)))))) (pss_cons (ps_setLc (i := 6) (own := [("_law_k", 7)]) (g := gName 7) (by rfl) sc_l_subset.nd rfl rfl (sw_true rfl rfl rfl (by decide +kernel)) (pi_range1 (by rfl) Z.range_ (pa_cons (pe_callB call_len_seq (by rfl) Z.len_ (by decide +kernel) (pa_cons (pv 1) pa_nil)) pa_nil)) (blkOk_by (own := [("_law_k", 7)]) (N := ["_law_state", "_law_pool", "_law_limit", "_law_spare", "_law_bits", "_law_x", "_law_some", "_law_k"]) (sc := defScope s_l_subset) (by decide +kernel)) (fun _ _ _ _ _ => pg_name (i := 7) sc_l_subset.nd rfl (Or.inl rfl)) (fun _ _ _ _ _ => (pts_one (pt_cmpR op_lt (pe_ix (show IxR _ (rIxL K) from ix_list) (pv 4) (pv 7) (fun _ _ => rfl)) (pv 2) (nomark _)))) (fun _ _ _ _ _ => (pe_ix (show IxR _ (rIxL K) from ix_list) (pv 1) (pv 7) (fun _ _ => rfl)))) (pss_one (ps_ret (pe_callTy call_tuple_of (by rfl) Z.tuple_ (by decide +kernel) (pa_cons (pe_callB cr_sortedS (by rfl) Z.sorted_ (by decide +kernel) (pa_cons (pe_ifExp (pt_cmpR (op_neD hr.units) (pv 6) (pe_lst pa_nil) (nomark _)) (pv 6) (pe_lst (pa_cons (pv 3) pa_nil))) pa_nil)) pa_nil))))))), ?_⟩
    have lm : (xs.map V.str).length = xs.length := List.length_map _
    refine ⟨_, rfl, D, 3, rfl, d, by decide, by decide, fun lim H1 l0 l1 g1 => ⟨_, _, rfl, rfl, ?_⟩⟩
    refine ⟨_, rfl, _, rfl, D, p, _, rfl, g1.st, g1.sm.seq hS, by omega, by omega, fun si sv H2 hsv g2 => ?_⟩
    obtain ⟨sp, hsp, rfl⟩ := getmap hsv
    have hspm := List.mem_of_getElem? hsp
    refine ⟨(by show 2 ≤ sizeLine; decide), fun t nt => ⟨t, _, rfl, .inl (.inl upd_same), rfl, _, _, rfl, _, _, rfl, rfl, ?_⟩⟩
    have g3 := (g1.trans g2).new (o := .tup [.int (1 + lim), .str sp]) nt
    generalize upd H2 t (.tup [.int (1 + lim), .str sp]) = H3 at g3 ⊢
    -- bits
    refine ⟨_, rfl, p, rfl, ⟨_, hid_same.seq (g3.sm.seq hS)⟩, fun B nB => ?_⟩
    have nBp := g3.st.ne_new nB
    refine lc_list (K := K) (a := p) (xs := xs.map V.str) (fun i H4 => Go D H H4 ∧ ∃ bs : List Int, bs.length = i ∧ H4 B = some (.lst (bs.map V.int))) ⟨g3.new nB, [], rfl, upd_same⟩ (fun i H4 _ z => hid_same.seq (z.1.sm.seq hS)) ?_ ?_
    · rintro i y H4 hi ⟨g4, bs, lb, eb⟩
      have hil := lt_of_get hi
      refine ⟨rfl, _, rfl, D, 4, rfl, g4.st, by decide, by decide, fun b H5 b0 b1 g5 => ?_⟩
      refine ⟨_, g5.old nBp eb, slineL (by rw [List.length_map]; omega), (g4.trans g5).mut d (g3.free d nB), bs ++ [b], by rw [List.length_append, lb]; rfl, ?_⟩
      rw [upd_same, List.map_append]
      rfl
    rintro H4 ⟨g4, bs, lb, eb⟩
    -- some
    refine ⟨_, rfl, p, _, rfl, .inl (hid_same.seq (g4.sm.seq hS)), _, rfl, by omega, by omega, fun S nS => ?_⟩
    have nSp := g4.st.ne_new nS
    have nSB : B ≠ S := ne_of_none eb nS
    have en : (((xs.map V.str).length : Nat) : Int).toNat = xs.length := by omega
    rw [en]
    refine lc_range (lo := 0) (n := xs.length) (fun i H5 => Go D H H5 ∧ H5 B = some (.lst (bs.map V.int)) ∧ ∃ zs : List Str, zs.Sublist (xs.take i) ∧ H5 S = some (.lst (zs.map V.str)))
      ⟨g4.new nS, by rw [upd_ne nSB]; exact eb, [], List.Sublist.refl _, upd_same⟩ ?_ ?_
    · rintro i H5 hi ⟨g5, eb5, zs, sz, ez⟩
      obtain ⟨b, hb⟩ : ∃ b, bs[i]? = some b := ⟨_, List.getElem?_eq_getElem (by omega)⟩
      obtain ⟨x, hx⟩ : ∃ x, xs[i]? = some x := ⟨_, List.getElem?_eq_getElem hi⟩
      have i0 : ((0 : Int) + (i : Int)).toNat = i := by omega
      have et : xs.take (i + 1) = xs.take i ++ [x] := by rw [List.take_add_one, hx]; rfl
      refine ⟨rfl, _, rfl, _, rfl, B, _, _, _, rfl, rfl, .inl (.inl eb5), atI_of (by omega) (by rw [i0, List.getElem?_map, hb]; rfl), _, rfl, _, _, rfl, rfl, _, rfl, ?_⟩
      refine ite2 (fun hk => ?_) (fun hk => ?_)
      · refine ⟨_, rfl, _, rfl, p, _, _, _, rfl, rfl, hid_same.seq (g5.sm.seq hS), atI_of (by omega) (by rw [i0, List.getElem?_map, hx]; rfl), _, ez, slineL (by have := sz.length_le; rw [List.length_take] at this; rw [List.length_map]; omega), ?_⟩
        refine ⟨g5.mut d (g4.free d nS), by rw [upd_ne nSB]; exact eb5, zs ++ [x], by rw [et]; exact sz.append (List.Sublist.refl _), ?_⟩
        rw [upd_same, List.map_append]
        rfl
      · exact ⟨g5, eb5, zs, by rw [et]; exact sz.trans (List.sublist_append_left _ _), ez⟩
    rintro H5 ⟨g5, eb5, zs, sz, ez⟩
    rw [List.take_length] at sz
    have lz := sz.length_le
    have nz : ∀ x ∈ zs, isNm x = true := fun x hx => hnm x (sz.subset hx)
    refine ⟨_, rfl, Nat.zero_le _, fun u nu => ?_⟩
    have g6 := g5.new (o := .lst []) nu
    have ez6 : (upd H5 u (.lst [])) S = some (.lst (zs.map V.str)) := by rw [upd_ne (ne_of_none ez nu)]; exact ez
    have eu : (upd H5 u (.lst [])) u = some (.lst []) := upd_same
    generalize upd H5 u (.lst []) = H6 at g6 ez6 eu ⊢
    refine ⟨.list (zs.map .str), .list [], .lst (.inl (.inl ez6)) (DaAll.dp (K := K) _ _ (DaAll.strs zs)), .lst (.inl (.inl eu)) .nil, (lv_lotL (n := 0) nz (by omega)).shaped (by decide), (lv_of 1 _ (by decide +kernel) : Lv 1 (.list [])).shaped (by decide), _, rfl, ?_⟩
    have e0 : PyData.eqv (.list (zs.map .str)) (.list []) = zs.isEmpty := by
      cases zs <;> simp [PyData.eqv, PyData.eqvAll]
    rw [e0]
    refine ite2 (fun hk => ?_) (fun hk => ?_)
    · refine ⟨_, rfl, S, zs, rfl, .inl (.inl ez6), by omega, fun ys r2 pm so nr2 => ?_⟩
      refine ⟨r2, _, rfl, .inl ⟨.inl (.inl upd_same), fun r nr => ?_⟩⟩
      have g7 := (g6.new (o := .lst (ys.map V.str)) nr2).new (o := .tup (ys.map V.str)) nr
      refine q r ys _ (fun e => ?_) (fun y hy => sz.subset (pm.mem_iff.mp hy)) (fun nd => pm.nodup_iff.mpr (nd.sublist sz)) (by rw [pm.length_eq]; exact lz) so ((g6.new nr2).free d nr) upd_same g7
      subst e
      have : zs = [] := List.nil_perm.mp pm
      rw [this] at hk
      cases hk
    · refine ⟨_, rfl, (by show 1 ≤ sizeLine; decide), fun w1 nw1 => ?_⟩
      refine ⟨w1, [sp], rfl, .inl (.inl upd_same), by show 1 < 64; decide, fun ys r2 pm so nr2 => ?_⟩
      have eys : ys = [sp] := List.perm_singleton.mp pm
      subst eys
      refine ⟨r2, _, rfl, .inl ⟨.inl (.inl upd_same), fun r nr => ?_⟩⟩
      have g7 := ((g6.new (o := .lst [.str sp]) nw1).new (o := .lst ([sp].map V.str)) nr2).new (o := .tup ([sp].map V.str)) nr
      refine q r [sp] _ (List.cons_ne_nil _ _) (fun y hy => by rw [List.mem_singleton.mp hy]; exact hspm) (fun _ => List.pairwise_singleton _ _) (by show 1 ≤ xs.length; omega) so (((g6.new nw1).new nr2).free d nr) upd_same g7
end
end Th
namespace Th
open PySem PySem.Spec PyProof.Rows L2
abbrev s_l_fact : Stmt := topS 27
theorem sc_l_fact : FnScope ["_law_state", "_law_pool", "_law_x", "_law_y", "_law_way"] ["_law_state", "_law_pool"] (defScope s_l_fact) := ⟨rfl, rfl, rfl, by decide +kernel, rfl, by decide +kernel, by decide +kernel⟩
/-- a fact about names of a list, in a new tuple -/
def factOf (xs ss : List Str) : Prop := ∃ x y, x ∈ xs ∧ y ∈ xs ∧ (ss = [Str.ofString "first", x] ∨ ss = [Str.ofString "last", x] ∨ ss = [Str.ofString "before", x, y])
def spFact (K : PySem.W.Frag) : Sp := fun vs H Q _ => ∃ (D : DS) (q : Addr) (xs : List Str), vs = [.ref D.p, .ref q] ∧ Drw D H ∧ SqL K (hid D.p H) q (xs.map V.str) ∧ 0 < xs.length ∧ xs.length ≤ 60 ∧
  ∀ (r : Addr) (ss : List Str) H', factOf xs ss → H r = none → H' r = some (.tup (ss.map V.str)) → Go D H H' → Q (.ref r) H'
section
variable {P : Program} {w : World} {K : PySem.W.Frag} {mg : Str → Option Value} {base : Heap}
theorem has_l_fact (Z : Zs mg) (A : At K mg "_law_fact" s_l_fact ["_law_state", "_law_pool"]) (h_l_draw : Has P w K mg base "_law_draw" s_l_draw 1 ["_law_state", "_law_many"] (spDraw)) (h_l_pick : Has P w K mg base "_law_pick" s_l_pick 2 ["_law_state", "_law_pool"] (spPick K)) : Has P w K mg base "_law_fact" s_l_fact 3 ["_law_state", "_law_pool"] (spFact K) := by
  obtain ⟨f, fd, F, mg1, bd⟩ := A
  obtain ⟨f_l_draw, fd_l_draw, G_l_draw, m_l_draw, k_l_draw, b_l_draw, F_l_draw⟩ := h_l_draw
  obtain ⟨f_l_pick, fd_l_pick, G_l_pick, m_l_pick, k_l_pick, b_l_pick, F_l_pick⟩ := h_l_pick
  refine ⟨f, fd, ?_, mg1, F.kp, bd, F⟩
  refine F.ok sc_l_fact (fun vs H Q E h => ?_) (fun cdv A outer s H vs Q E hr h => ?_)
  · obtain ⟨D, p, xs, rfl, _⟩ := h
    rfl
  · obtain ⟨D, p, xs, rfl, d, hS, h0, h1, q⟩ := h
    refine ⟨_, (pss_cons (ps_par3 (i := 2) (j := 3) (l := 4) (by rfl) sc_l_fact.nd rfl rfl rfl (by decide) (by decide) (by decide) rfl rfl rfl (pa_cons (pe_call G_l_pick (hr.mono (by decide)) (by rfl) m_l_pick k_l_pick b_l_pick .nil pass0 (pa_cons (pv 0) (pa_cons (pv 1) pa_nil))) (pa_cons (pe_call G_l_pick (hr.mono (by decide)) (by rfl) m_l_pick k_l_pick b_l_pick .nil pass0 (pa_cons (pv 0) (pa_cons (pv 1) pa_nil))) (pa_cons (pe_call G_l_draw (hr.mono (by decide)) (by rfl) m_l_draw k_l_draw b_l_draw .nil pass0 (pa_cons (pv 0) (pa_cons pe_int pa_nil))) pa_nil))) (by rfl)) (C8.pss_cut (ps_if (PW.pt (pw_and (pt_cmpR op_eq (pv 2) (pv 3) (nomark _)) (pw_and1 (pt_cmpR op_gt (pe_call G_l_draw (hr.mono (by decide)) (by rfl) m_l_draw k_l_draw b_l_draw .nil pass0 (pa_cons (pv 0) (pa_cons pe_int pa_nil))) pe_int (nomark _))))) (pss_one (ps_set (i := 3) sc_l_fact.nd rfl (Or.inl rfl) (pe_ifExp (pt_cmpR op_ne (pv 2) (pe_ix ix_list (pv 1) pe_int (fun _ _ => rfl)) (nomark _)) (pe_ix ix_list (pv 1) pe_int (fun _ _ => rfl)) (pe_ix ix_list (pv 1) (pe_un un_neg pe_int) (fun _ _ => rfl))))) pss_nil) (pss_one (ps_ret (pe_ifExp (pt_cmpR op_eq (pv 4) pe_int (nomark _)) (pe_tup (pa_cons pe_str (pa_cons (pv 2) pa_nil))) (pe_ifExp (pt_cmpR op_eq (pv 4) pe_int (nomark _)) (pe_tup (pa_cons pe_str (pa_cons (pv 2) pa_nil))) (pe_tup (pa_cons pe_str (pa_cons (pv 2) (pa_cons (pv 3) pa_nil)))))))))), ?_⟩
    have lm : (xs.map V.str).length = xs.length := List.length_map _
    refine ⟨_, rfl, _, rfl, D, p, _, rfl, d, hS, by omega, by omega, fun i1 v1 H1 hv1 g1 => ?_⟩
    obtain ⟨x, hx, rfl⟩ := getmap hv1
    refine ⟨_, rfl, _, rfl, D, p, _, rfl, g1.st, g1.sm.seq hS, by omega, by omega, fun i2 v2 H2 hv2 g2 => ?_⟩
    obtain ⟨y, hy, rfl⟩ := getmap hv2
    refine ⟨_, rfl, D, 6, rfl, g2.st, by decide, by decide, fun way H3 w0 w1 g3 => ?_⟩
    have hxm := List.mem_of_getElem? hx
    have g4 := (g1.trans g2).trans g3
    refine ⟨_, _, _, rfl, ?_⟩
    refine ⟨fun σ H4 => ∃ y, y ∈ xs ∧ σ = [some (.ref D.p), some (.ref p), some (.str x), some (.str y), some (.int way)] ∧ Go D H H4, ?_, ?_⟩
    · have stay : ∀ H5, Go D H H5 → ∃ y', y' ∈ xs ∧ [some (V.ref D.p), some (V.ref p), some (V.str x), some (V.str y), some (V.int way)] = [some (.ref D.p), some (.ref p), some (.str x), some (.str y'), some (.int way)] ∧ Go D H H5 := fun H5 g5 => ⟨y, List.mem_of_getElem? hy, rfl, g5⟩
      refine ⟨_, rfl, _, rfl, rfl, _, rfl, ?_⟩
      refine ite2 (fun hb => ?_) (fun hb => iteF (stay _ g4))
      refine ⟨_, rfl, D, 4, rfl, g4.st, by decide, by decide, fun r H5 r0 r1 g5 => ⟨_, _, rfl, rfl, _, rfl, ?_⟩⟩
      have g6 := g4.trans g5
      have hA := hid_same.seq (g6.sm.seq hS)
      refine ite2 (fun hc => ?_) (fun hc => stay _ g6)
      obtain ⟨z, hz⟩ : ∃ z, xs[0]? = some z := ⟨_, List.getElem?_eq_getElem h0⟩
      have hz' : atI (xs.map V.str) 0 = some (.str z) := atI_of (by decide) (by show (xs.map V.str)[0]? = _; rw [List.getElem?_map, hz]; rfl)
      refine ⟨_, rfl, _, rfl, p, _, _, _, rfl, rfl, hA, hz', rfl, _, rfl, ?_⟩
      refine ite2 (fun he => ?_) (fun he => ?_)
      · exact ⟨_, rfl, p, _, _, _, rfl, rfl, hA, hz', z, List.mem_of_getElem? hz, rfl, g6⟩
      · obtain ⟨pre, w, e⟩ : ∃ pre w, xs = pre ++ [w] := ⟨xs.dropLast, xs.getLast (fun z => by rw [z] at h0; cases h0), (List.dropLast_concat_getLast _).symm⟩
        have hl : atI (xs.map V.str) (-1) = some (.str w) := by
          rw [e, List.map_append]
          exact atI_last _ _
        refine ⟨_, rfl, _, rfl, p, _, _, _, rfl, rfl, hA, hl, w, ?_, rfl, g6⟩
        rw [e]
        exact List.mem_append_right _ List.mem_cons_self
    · rintro σ H4 ⟨y, hym, rfl, g5⟩
      refine ⟨_, rfl, rfl, _, rfl, ?_⟩
      refine ite2 (fun hb => ?_) (fun hb => ?_)
      · refine ⟨_, rfl, (by show 2 ≤ sizeLine; decide), fun r nr => ?_⟩
        exact q r [Str.ofString "first", x] _ ⟨x, y, hxm, hym, .inl rfl⟩ (g5.free d nr) upd_same (g5.new nr)
      · refine ⟨_, rfl, rfl, _, rfl, ?_⟩
        refine ite2 (fun hc => ?_) (fun hc => ?_)
        · refine ⟨_, rfl, (by show 2 ≤ sizeLine; decide), fun r nr => ?_⟩
          exact q r [Str.ofString "last", x] _ ⟨x, y, hxm, hym, .inr (.inl rfl)⟩ (g5.free d nr) upd_same (g5.new nr)
        · refine ⟨_, rfl, _, rfl, (by show 3 ≤ sizeLine; decide), fun r nr => ?_⟩
          exact q r [Str.ofString "before", x, y] _ ⟨x, y, hxm, hym, .inr (.inr rfl)⟩ (g5.free d nr) upd_same (g5.new nr)
end
end Th
namespace Th
open PySem PySem.Spec PyProof.Rows L2
abbrev s_l_said_like : Stmt := topS 29
theorem sc_l_said_like : FnScope ["_law_state", "_law_pool", "_law_lot_z", "_law_way", "_law_some", "_law_spot", "_law_bend"] ["_law_state", "_law_pool"] (defScope s_l_said_like) := ⟨rfl, rfl, rfl, by decide +kernel, rfl, by decide +kernel, by decide +kernel⟩
def spLike (K : PySem.W.Frag) : Sp := fun vs H Q _ => ∃ (D : DS) (q : Addr) (xs : List Str), vs = [.ref D.p, .ref q] ∧ Drw D H ∧ SqL K (hid D.p H) q (xs.map V.str) ∧ 0 < xs.length ∧ xs.length ≤ 12 ∧ (∀ x ∈ xs, isNm x = true) ∧
  ∀ (v : V) (d : PyData) H', Da K (hid D.p H') v d → Lv 5 d → Go D H H' → Q v H'
/-- what the list that is bent holds -/
structure Some1 (K : PySem.W.Frag) (D : DS) (H0 H : Hp) (R Z : Addr) (vs : List V) (ds : List PyData) (zs : List Str) (n : Nat) : Prop where
  g : Go D H0 H
  rp : R ≠ D.p
  er : H R = some (.lst vs)
  da : DaAll K (hid D.p H) vs ds
  lv : ∀ d ∈ ds, Lv 3 d
  len : ds.length ≤ n
  zp : Z ≠ D.p
  ez : H Z = some (.lst (zs.map V.str))
theorem Some1.to {K : PySem.W.Frag} {D : DS} {H0 H H' : Hp} {R Z : Addr} {vs : List V} {ds : List PyData} {zs : List Str} {n : Nat} (s : Some1 K D H0 H R Z vs ds zs n) (g : Go D H H') : Some1 K D H0 H' R Z vs ds zs n :=
  ⟨s.g.trans g, s.rp, g.old s.rp s.er, s.da.to g.sm, s.lv, s.len, s.zp, g.old s.zp s.ez⟩
theorem Some1.new {K : PySem.W.Frag} {D : DS} {H0 H : Hp} {R Z q : Addr} {o : HO} {vs : List V} {ds : List PyData} {zs : List Str} {n : Nat} (s : Some1 K D H0 H R Z vs ds zs n) (h : H q = none) : Some1 K D H0 (upd H q o) R Z vs ds zs n := s.to (Go.of s.g.st (same_new h))
theorem Some1.up {K : PySem.W.Frag} {D : DS} {H0 H : Hp} {R Z : Addr} {vs : List V} {ds : List PyData} {zs : List Str} {n m : Nat} (s : Some1 K D H0 H R Z vs ds zs n) (h : n ≤ m) : Some1 K D H0 H R Z vs ds zs m := ⟨s.g, s.rp, s.er, s.da, s.lv, Nat.le_trans s.len h, s.zp, s.ez⟩
/-- another list takes its place -/
theorem Some1.put {K : PySem.W.Frag} {D : DS} {H0 H : Hp} {R Z : Addr} {vs : List V} {ds : List PyData} {zs : List Str} {n m : Nat} (s : Some1 K D H0 H R Z vs ds zs n) {q : Addr} {ws : List V} {es : List PyData} (nq : H q = none) (da : DaAll K (hid D.p H) ws es) (lv : ∀ d ∈ es, Lv 3 d) (len : es.length ≤ m) :
    Some1 K D H0 (upd H q (.lst ws)) q Z ws es zs m :=
  ⟨s.g.new nq, s.g.st.ne_new nq, upd_same, da.to (Go.of s.g.st (same_new nq)).sm, lv, len, s.zp, by rw [upd_ne (ne_of_none s.ez nq)]; exact s.ez⟩
/-- between two bends -/
def MidS (K : PySem.W.Frag) (D : DS) (H : Hp) (p Z : Addr) (way spot bend : Int) (zs : List Str) (n : Nat) : L2.St → Hp → Prop := fun σ H7 => ∃ (R : Addr) (vs : List V) (ds : List PyData),
  σ = [some (.ref D.p), some (.ref p), some (.ref Z), some (.int way), some (.ref R), some (.int spot), some (.int bend)] ∧ Some1 K D H H7 R Z vs ds zs n ∧ (bend = 1 ∨ ds ≠ [])
section
variable {P : Program} {w : World} {K : PySem.W.Frag} {mg : Str → Option Value} {base : Heap}
theorem has_l_said_like (Z : Zs mg) (A : At K mg "_law_said_like" s_l_said_like ["_law_state", "_law_pool"]) (h_l_draw : Has P w K mg base "_law_draw" s_l_draw 1 ["_law_state", "_law_many"] (spDraw)) (h_l_pick : Has P w K mg base "_law_pick" s_l_pick 2 ["_law_state", "_law_pool"] (spPick K)) (h_l_odd : Has P w K mg base "_law_odd" s_l_odd 3 ["_law_state"] (spOdd K)) (h_l_subset : Has P w K mg base "_law_subset" s_l_subset 3 ["_law_state", "_law_pool"] (spSubset K)) (h_l_fact : Has P w K mg base "_law_fact" s_l_fact 3 ["_law_state", "_law_pool"] (spFact K)) : Has P w K mg base "_law_said_like" s_l_said_like 4 ["_law_state", "_law_pool"] (spLike K) := by
  obtain ⟨f, fd, F, mg1, bd⟩ := A
  obtain ⟨f_l_draw, fd_l_draw, G_l_draw, m_l_draw, k_l_draw, b_l_draw, F_l_draw⟩ := h_l_draw
  obtain ⟨f_l_pick, fd_l_pick, G_l_pick, m_l_pick, k_l_pick, b_l_pick, F_l_pick⟩ := h_l_pick
  obtain ⟨f_l_odd, fd_l_odd, G_l_odd, m_l_odd, k_l_odd, b_l_odd, F_l_odd⟩ := h_l_odd
  obtain ⟨f_l_subset, fd_l_subset, G_l_subset, m_l_subset, k_l_subset, b_l_subset, F_l_subset⟩ := h_l_subset
  obtain ⟨f_l_fact, fd_l_fact, G_l_fact, m_l_fact, k_l_fact, b_l_fact, F_l_fact⟩ := h_l_fact
  refine ⟨f, fd, ?_, mg1, F.kp, bd, F⟩
  refine F.ok sc_l_said_like (fun vs H Q E h => ?_) (fun cdv A outer s H vs Q E hr h => ?_)
  · obtain ⟨D, p, xs, rfl, _⟩ := h
    rfl
  · obtain ⟨D, p, xs, rfl, d, hS, h0, h1, hnm, q⟩ := h
    refine ⟨_, (pss_cons (ps_par (i := 2) (j := 3) (by rfl) sc_l_said_like.nd rfl rfl (by decide) rfl rfl (pa_cons (pe_callTy call_list_of (by rfl) Z.list_ (by decide +kernel) (pa_cons (pe_call G_l_subset (hr.mono (by decide)) (by rfl) m_l_subset k_l_subset b_l_subset .nil pass0 (pa_cons (pv 0) (pa_cons (pv 1) pa_nil))) pa_nil)) (pa_cons (pe_call G_l_draw (hr.mono (by decide)) (by rfl) m_l_draw k_l_draw b_l_draw .nil pass0 (pa_cons (pv 0) (pa_cons pe_int pa_nil))) pa_nil)) (by rfl)) (C8.pss_cut (ps_set (i := 4) sc_l_said_like.nd rfl (Or.inl rfl) (pe_ix ix_list (pe_lst (pa_cons (pe_lst (pa_cons pe_str (pa_cons (pe_callTy call_tuple_of (by rfl) Z.tuple_ (by decide +kernel) (pa_cons (pv 2) pa_nil)) pa_nil))) (pa_cons (pe_lst (pa_cons pe_str (pa_cons (pe_call G_l_pick (hr.mono (by decide)) (by rfl) m_l_pick k_l_pick b_l_pick .nil pass0 (pa_cons (pv 0) (pa_cons (pv 1) pa_nil))) (pa_cons (pe_call G_l_pick (hr.mono (by decide)) (by rfl) m_l_pick k_l_pick b_l_pick .nil pass0 (pa_cons (pv 0) (pa_cons (pv 1) pa_nil))) pa_nil)))) (pa_cons (pe_lst (pa_cons pe_str pa_nil)) (pa_cons (pe_callTy call_list_of (by rfl) Z.list_ (by decide +kernel) (pa_cons (pe_call G_l_fact (hr.mono (by decide)) (by rfl) m_l_fact k_l_fact b_l_fact .nil pass0 (pa_cons (pv 0) (pa_cons (pv 1) pa_nil))) pa_nil)) pa_nil))))) (pv 3) (fun _ _ => rfl))) (pss_cons (ps_par (i := 5) (j := 6) (by rfl) sc_l_said_like.nd rfl rfl (by decide) rfl rfl (pa_cons (pe_call G_l_draw (hr.mono (by decide)) (by rfl) m_l_draw k_l_draw b_l_draw .nil pass0 (pa_cons (pv 0) (pa_cons (pe_callB call_len_seq (by rfl) Z.len_ (by decide +kernel) (pa_cons (pv 4) pa_nil)) pa_nil))) (pa_cons (pe_call G_l_draw (hr.mono (by decide)) (by rfl) m_l_draw k_l_draw b_l_draw .nil pass0 (pa_cons (pv 0) (pa_cons pe_int pa_nil))) pa_nil)) (by rfl)) (pss_cons (ps_if (pt_cmpR op_eq (pv 6) pe_int (nomark _)) (pss_one (ps_ret (pv 4))) pss_nil) (C8.pss_cut (ps_if (pt_cmpR op_eq (pv 6) pe_int (nomark _)) (pss_one (ps_set (i := 4) sc_l_said_like.nd rfl (Or.inl rfl) (pe_op op_cat (pe_slice sl_list (pv 4) po_none (po_some (pv 5))) (pe_slice sl_list (pv 4) (po_some (pe_op op_add (pv 5) pe_int)) po_none)))) pss_nil) (C8.pss_cut (ps_if (pt_cmpR op_eq (pv 6) pe_int (nomark _)) (pss_one (ps_set (i := 4) sc_l_said_like.nd rfl (Or.inl rfl) (pe_op op_cat (pv 4) (pe_lst (pa_cons (pe_call G_l_pick (hr.mono (by decide)) (by rfl) m_l_pick k_l_pick b_l_pick .nil pass0 (pa_cons (pv 0) (pa_cons (pe_lst (pa_cons (pe_ix ix_list (pv 4) (pe_un un_neg pe_int) (fun _ _ => rfl)) (pa_cons (pe_call G_l_odd (hr.mono (by decide)) (by rfl) m_l_odd k_l_odd b_l_odd .nil pass0 (pa_cons (pv 0) pa_nil)) (pa_cons (pe_tup pa_nil) pa_nil)))) pa_nil))) pa_nil))))) pss_nil) (C8.pss_cut (ps_if (pt_cmpR op_eq (pv 6) pe_int (nomark _)) (pss_one (ps_set (i := 4) sc_l_said_like.nd rfl (Or.inl rfl) (pe_op op_cat (pe_op op_cat (pe_slice sl_list (pv 4) po_none (po_some (pv 5))) (pe_lst (pa_cons (pe_call G_l_odd (hr.mono (by decide)) (by rfl) m_l_odd k_l_odd b_l_odd .nil pass0 (pa_cons (pv 0) pa_nil)) pa_nil))) (pe_slice sl_list (pv 4) (po_some (pe_op op_add (pv 5) pe_int)) po_none)))) pss_nil) (C8.pss_cut (ps_if (pt_cmpR op_eq (pv 6) pe_int (nomark _)) (pss_one (ps_set (i := 4) sc_l_said_like.nd rfl (Or.inl rfl) (pe_op op_cat (pe_lst (pa_cons (pe_call G_l_pick (hr.mono (by decide)) (by rfl) m_l_pick k_l_pick b_l_pick .nil pass0 (pa_cons (pv 0) (pa_cons (pe_lst (pa_cons pe_str (pa_cons pe_str (pa_cons pe_str (pa_cons pe_str (pa_cons pe_str (pa_cons pe_str (pa_cons pe_str pa_nil)))))))) pa_nil))) pa_nil)) (pe_slice sl_list (pv 4) (po_some pe_int) po_none)))) pss_nil) (C8.pss_cut (ps_if (pt_cmpR op_eq (pv 6) pe_int (nomark _)) (pss_one (ps_set (i := 4) sc_l_said_like.nd rfl (Or.inl rfl) (pe_op op_cat (pe_lst (pa_cons pe_str pa_nil)) (pv 2)))) pss_nil) (C8.pss_cut (ps_if (pt_cmpR op_eq (pv 6) pe_int (nomark _)) (pss_one (ps_set (i := 4) sc_l_said_like.nd rfl (Or.inl rfl) (pe_lst (pa_cons pe_str (pa_cons (pe_call G_l_pick (hr.mono (by decide)) (by rfl) m_l_pick k_l_pick b_l_pick .nil pass0 (pa_cons (pv 0) (pa_cons (pe_lst (pa_cons (pv 2) (pa_cons (pe_callTy call_tuple_of (by rfl) Z.tuple_ (by decide +kernel) (pa_cons (pe_revL (pv 2)) pa_nil)) (pa_cons (pe_callTy call_tuple_of (by rfl) Z.tuple_ (by decide +kernel) (pa_cons (pe_op op_cat (pv 2) (pe_slice sl_list (pv 2) po_none (po_some pe_int))) pa_nil)) (pa_cons (pe_tup pa_nil) (pa_cons (pe_ix ix_list (pv 2) pe_int (fun _ _ => rfl)) pa_nil)))))) pa_nil))) pa_nil))))) pss_nil) (C8.pss_cut (ps_if (pt_cmpR op_eq (pv 6) pe_int (nomark _)) (pss_one (ps_set (i := 4) sc_l_said_like.nd rfl (Or.inl rfl) (pe_lst (pa_cons pe_str (pa_cons (pe_callTy call_tuple_of (by rfl) Z.tuple_ (by decide +kernel) (pa_cons (pe_op op_cat (pe_op op_cat (pe_slice sl_list (pv 2) po_none (po_some (pv 5))) (pe_lst (pa_cons (pe_call G_l_odd (hr.mono (by decide)) (by rfl) m_l_odd k_l_odd b_l_odd .nil pass0 (pa_cons (pv 0) pa_nil)) pa_nil))) (pe_slice sl_list (pv 2) (po_some (pv 5)) po_none)) pa_nil)) pa_nil))))) pss_nil) (pss_one (ps_ret (pe_ifExp (pt_cmpR op_eq (pv 6) pe_int (nomark _)) (pe_tup (pa_cons (pe_callTy call_tuple_of (by rfl) Z.tuple_ (by decide +kernel) (pa_cons (pv 4) pa_nil)) pa_nil)) (pe_callTy call_tuple_of (by rfl) Z.tuple_ (by decide +kernel) (pa_cons (pv 4) pa_nil)))))))))))))))), ?_⟩
    have lm : (xs.map V.str).length = xs.length := List.length_map _
    -- lot_z, way
    refine ⟨_, rfl, _, rfl, D, p, xs, rfl, d, hS, h0, by omega, hnm, fun r zs H1 zne zin znd zlen zso nr er g1 => ?_⟩
    refine ⟨r, _, rfl, .inr (.inl (.inl er)), fun Z nZ => ?_⟩
    have nZp := g1.st.ne_new nZ
    have g2 := g1.new (o := .lst (zs.map V.str)) nZ
    have eZ : (upd H1 Z (.lst (zs.map V.str))) Z = some (.lst (zs.map V.str)) := upd_same
    generalize upd H1 Z (.lst (zs.map V.str)) = H2 at g2 eZ ⊢
    have nz : ∀ x ∈ zs, isNm x = true := fun x hx => hnm x (zin x hx)
    refine ⟨_, rfl, D, 4, rfl, g2.st, by decide, by decide, fun way H3 w0 w1 g3 => ⟨_, _, rfl, ?_⟩⟩
    have g4 := g2.trans g3
    have eZ3 := g3.old nZp eZ
    have zl : zs.length ≤ 12 := by omega
    refine ⟨fun σ H4 => ∃ (R : Addr) (vs : List V) (ds : List PyData), σ = [some (.ref D.p), some (.ref p), some (.ref Z), some (.int way), some (.ref R), none, none] ∧ Some1 K D H H4 R Z vs ds zs 3 ∧ ds ≠ [], ?_, ?_⟩
    · -- the four lists
      refine ⟨_, rfl, Z, _, rfl, .inl ⟨.inl (.inl eZ3), fun t1 nt1 => ⟨by show 2 ≤ sizeLine; decide, fun l1 nl1 => ?_⟩⟩⟩
      have g5 := (g4.new (o := .tup (zs.map V.str)) nt1).new (o := .lst [.str "lot", .ref t1]) nl1
      have e1 : (upd (upd H3 t1 (.tup (zs.map V.str))) l1 (.lst [.str "lot", .ref t1])) l1 = some (.lst [.str "lot", .ref t1]) := upd_same
      have et1 : (upd (upd H3 t1 (.tup (zs.map V.str))) l1 (.lst [.str "lot", .ref t1])) t1 = some (.tup (zs.map V.str)) := kp upd_same nl1
      have eZ5 : (upd (upd H3 t1 (.tup (zs.map V.str))) l1 (.lst [.str "lot", .ref t1])) Z = some (.lst (zs.map V.str)) := kp (kp eZ3 nt1) nl1
      have p1 := (g4.new (o := .tup (zs.map V.str)) nt1).st.ne_new nl1
      have pt1 := g4.st.ne_new nt1
      generalize upd (upd H3 t1 (.tup (zs.map V.str))) l1 (.lst [.str "lot", .ref t1]) = H5 at g5 e1 et1 eZ5 ⊢
      refine ⟨_, rfl, _, rfl, D, p, _, rfl, g5.st, g5.sm.seq hS, by omega, by omega, fun i2 v2 H6 hv2 g6 => ?_⟩
      obtain ⟨x2, hx2, rfl⟩ := getmap hv2
      have g6' := g5.trans g6
      refine ⟨_, rfl, _, rfl, D, p, _, rfl, g6.st, g6'.sm.seq hS, by omega, by omega, fun i3 v3 H7 hv3 g7 => ?_⟩
      obtain ⟨x3, hx3, rfl⟩ := getmap hv3
      have g7' := g6'.trans g7
      refine ⟨by show 3 ≤ sizeLine; decide, fun l2 nl2 => ?_⟩
      have p2 := g7.st.ne_new nl2
      have g8 := g7'.new (o := .lst [.str "before", .str x2, .str x3]) nl2
      refine ⟨by show 1 ≤ sizeLine; decide, fun l3 nl3 => ?_⟩
      have p3 := g8.st.ne_new nl3
      have g9 := g8.new (o := .lst [.str "never"]) nl3
      refine ⟨_, rfl, _, rfl, D, p, xs, rfl, g9.st, g9.sm.seq hS, h0, by omega, fun f4 ss H10 hss nf4 ef4 g10 => ?_⟩
      refine ⟨f4, _, rfl, .inr (.inl (.inl ef4)), fun l4 nl4 => ?_⟩
      have g10' := g9.trans g10
      have p4 := g10'.st.ne_new nl4
      have g11 := g10'.new (o := .lst (ss.map V.str)) nl4
      refine ⟨by show 4 ≤ sizeLine; decide, fun o5 no5 => ?_⟩
      have g12 := g11.new (o := .lst [.ref l1, .ref l2, .ref l3, .ref l4]) no5
      have eZ12 := ((((g6.trans g7).new (o := .lst [.str "before", .str x2, .str x3]) nl2).new (o := .lst [.str "never"]) nl3).trans g10)
      have gA := (eZ12.new (o := .lst (ss.map V.str)) nl4).new (o := .lst [.ref l1, .ref l2, .ref l3, .ref l4]) no5
      have fZ := gA.old nZp eZ5
      have f1 := gA.old p1 e1
      have ft1 := gA.old pt1 et1
      have f2 : _ = some (HO.lst [.str "before", .str x2, .str x3]) := kp (u := .lst [V.ref l1, .ref l2, .ref l3, .ref l4]) (kp (u := .lst (ss.map V.str)) (g10.old p2 (kp (u := .lst [.str "never"]) (upd_same (H := H7) (a := l2) (o := .lst [.str "before", .str x2, .str x3])) nl3)) nl4) no5
      have f3 : _ = some (HO.lst [.str "never"]) := kp (u := .lst [V.ref l1, .ref l2, .ref l3, .ref l4]) (kp (u := .lst (ss.map V.str)) (g10.old p3 (upd_same (o := .lst [.str "never"]))) nl4) no5
      have f4' : _ = some (HO.lst (ss.map V.str)) := kp (u := .lst [V.ref l1, .ref l2, .ref l3, .ref l4]) (upd_same (o := .lst (ss.map V.str))) no5
      have hw : way = 0 ∨ way = 1 ∨ way = 2 ∨ way = 3 := by omega
      have n2 := hnm x2 (List.mem_of_getElem? hx2)
      have n3 := hnm x3 (List.mem_of_getElem? hx3)
      rcases hw with rfl | rfl | rfl | rfl
      · refine ⟨_, rfl, o5, _, _, .ref l1, rfl, rfl, .inl (.inl upd_same), atI_of (by decide) rfl, l1, _, [.str "lot", .tuple (zs.map .str)], rfl, ⟨g12, p1, f1, .cons (.str _) (.cons (Da.newT (by rw [hid_ne pt1]; exact ft1) (DaAll.strs zs)) .nil), ?_, by show 2 ≤ 3; decide, nZp, fZ⟩, List.cons_ne_nil _ _⟩
        intro e he
        rcases List.mem_cons.mp he with e1 | he
        · rw [e1]; exact lv_word 3 _ (by decide +kernel) (by decide +kernel)
        · rw [List.mem_singleton.mp he]; exact lv_lot nz (by omega)
      · refine ⟨_, rfl, o5, _, _, .ref l2, rfl, rfl, .inl (.inl upd_same), atI_of (by decide) rfl, l2, _, [.str "before", .str x2, .str x3], rfl, ⟨g12, p2, f2, .cons (.str _) (.cons (.str _) (.cons (.str _) .nil)), ?_, by show 3 ≤ 3; decide, nZp, fZ⟩, List.cons_ne_nil _ _⟩
        intro e he
        rcases List.mem_cons.mp he with e1 | he
        · rw [e1]; exact lv_word 3 _ (by decide +kernel) (by decide +kernel)
        · rcases List.mem_cons.mp he with e1 | he
          · rw [e1]; exact lv_nm n2
          · rw [List.mem_singleton.mp he]; exact lv_nm n3
      · refine ⟨_, rfl, o5, _, _, .ref l3, rfl, rfl, .inl (.inl upd_same), atI_of (by decide) rfl, l3, _, [.str "never"], rfl, ⟨g12, p3, f3, .cons (.str _) .nil, ?_, by show 1 ≤ 3; decide, nZp, fZ⟩, List.cons_ne_nil _ _⟩
        intro e he
        rw [List.mem_singleton.mp he]
        exact lv_word 3 _ (by decide +kernel) (by decide +kernel)
      · refine ⟨_, rfl, o5, _, _, .ref l4, rfl, rfl, .inl (.inl upd_same), atI_of (by decide) rfl, l4, _, ss.map .str, rfl, ⟨g12, p4, f4', DaAll.strs ss, ?_, ?_, nZp, fZ⟩, ?_⟩
        · obtain ⟨x, y, hx, hy, hs⟩ := hss
          have w1 : ∀ s : Str, s ∈ [Str.ofString "first", Str.ofString "last", Str.ofString "before"] → Lv 3 (.str s) := fun s hs => by
            have hk : ∀ s ∈ [Str.ofString "first", Str.ofString "last", Str.ofString "before"], PyData.strOk s = true ∧ s.length ≤ 100000 := by decide +kernel
            exact lv_word 3 s (hk s hs).1 (hk s hs).2
          have nx := hnm x hx
          have ny := hnm y hy
          intro e he
          obtain ⟨s, hs2, rfl⟩ := List.mem_map.mp he
          rcases hs with rfl | rfl | rfl
          · rcases List.mem_cons.mp hs2 with e | hs2
            · exact w1 s (by rw [e]; simp)
            · rw [List.mem_singleton.mp hs2]; exact lv_nm nx
          · rcases List.mem_cons.mp hs2 with e | hs2
            · exact w1 s (by rw [e]; simp)
            · rw [List.mem_singleton.mp hs2]; exact lv_nm nx
          · rcases List.mem_cons.mp hs2 with e | hs2
            · exact w1 s (by rw [e]; simp)
            · rcases List.mem_cons.mp hs2 with e | hs2
              · rw [e]; exact lv_nm nx
              · rw [List.mem_singleton.mp hs2]; exact lv_nm ny
        · obtain ⟨x, y, hx, hy, rfl | rfl | rfl⟩ := hss <;> first | (show 2 ≤ 3; decide) | (show 3 ≤ 3; decide)
        · obtain ⟨x, y, hx, hy, rfl | rfl | rfl⟩ := hss <;> exact List.cons_ne_nil _ _
    rintro σ H4 ⟨R, vs, ds, rfl, s1, hne⟩
    have ls := s1.da.len
    have lpos : 0 < ds.length := List.length_pos_iff.mpr hne
    have l3 := s1.len
    refine ⟨_, rfl, _, rfl, R, vs, rfl, .inl (.inl (.inl s1.er)), D, _, rfl, s1.g.st, by omega, by omega, fun spot H5 sp0 sp1 g5 => ?_⟩
    have s2 := s1.to g5
    refine ⟨_, rfl, D, 12, rfl, s2.g.st, by decide, by decide, fun bend H6 b0 b1 g6 => ⟨_, _, rfl, ?_⟩⟩
    have s3 := s2.to g6
    refine ⟨_, rfl, rfl, _, rfl, ?_⟩
    refine ite2 (fun hb => ?_) (fun hb => ?_)
    · exact ⟨_, rfl, q _ (.list ds) H6 (Da.newL (by rw [hid_ne s3.rp]; exact s3.er) s3.da) ⟨by omega, fun d hd => (s3.lv d hd).up⟩ s3.g⟩
    have big : ∀ n : Nat, n ≤ 1000 → n ≤ sizeLine := fun n hn => sline (by omega)
    have lotS : Lv 3 (.str "lot") := lv_word 3 _ (by decide +kernel) (by decide +kernel)
    have lz3 : ∀ d ∈ zs.map PyData.str, Lv 3 d := lv_names nz 3
    have lz2 : ∀ d ∈ zs.map PyData.str, Lv 2 d := lv_names nz 2
    have lzm : (zs.map V.str).length = zs.length := List.length_map _
    have lzd : (zs.map PyData.str).length = zs.length := List.length_map _
    refine ⟨MidS K D H p Z way spot bend zs 3, ?_, ?_⟩
    · -- one thing left out
      refine ⟨_, rfl, rfl, _, rfl, ?_⟩
      refine ite2 (fun hk => ?_) (fun _ => ⟨R, vs, ds, rfl, s3, .inr hne⟩)
      refine ⟨_, rfl, _, rfl, spot, rfl, R, vs, rfl, .inl (.inl s3.er), fun q1 n1 => ?_⟩
      have s3a := s3.new (o := .lst (cutV vs none (some spot))) n1
      refine ⟨_, rfl, _, rfl, _, _, rfl, rfl, _, rfl, R, vs, rfl, .inl (.inl s3a.er), fun q2 n2 => ?_⟩
      have s3b := s3a.new (o := .lst (cutV vs (some (spot + 1)) none)) n2
      obtain ⟨es1, d1, m1, c1⟩ := s3b.da.cut none (some spot)
      obtain ⟨es2, d2, m2, c2⟩ := s3b.da.cut (some (spot + 1)) none
      have k1 := d1.len
      have k2 := d2.len
      refine ⟨q1, q2, _, _, rfl, rfl, kp upd_same n2, upd_same, big _ (by omega), fun q3 n3 => ?_⟩
      have tot : (es1 ++ es2).length ≤ 3 := by
        rw [← (d1.app d2).len, List.length_append]
        unfold cutV
        rw [List.length_take, List.length_drop, List.length_take, List.length_drop, HT.sIx_none, HT.sIx_none]
        have e1 : HT.sIx vs.length vs.length (some spot) = min spot.toNat vs.length := by
          have z : spot = ((spot.toNat : Nat) : Int) := by omega
          rw [z, HT.sIx_nat, Int.toNat_natCast]
        have e2 : HT.sIx vs.length 0 (some (spot + 1)) = min (spot + 1).toNat vs.length := by
          have z : spot + 1 = (((spot + 1).toNat : Nat) : Int) := by omega
          rw [z, HT.sIx_nat, Int.toNat_natCast]
        rw [e1, e2]
        omega
      exact ⟨q3, _, _, rfl, s3b.put n3 (d1.app d2) (lv_snoc (fun e he => s3.lv e (m1 e he)) (fun e he => s3.lv e (m2 e he))) tot, .inl (V.int.inj (of_decide_eq_true hk))⟩
    rintro σ H7 ⟨R, vs, ds, rfl, s4, hne⟩
    clear s3 s2 s1 ls lpos l3
    have ls := s4.da.len
    have l4 := s4.len
    refine ⟨MidS K D H p Z way spot bend zs 4, ?_, ?_⟩
    · -- one thing more
      refine ⟨_, rfl, rfl, _, rfl, ?_⟩
      refine ite2 (fun hk => ?_) (fun _ => ⟨R, vs, ds, rfl, s4.up (by decide), hne⟩)
      have hk' := V.int.inj (of_decide_eq_true hk)
      have hne' : ds ≠ [] := hne.resolve_left (by omega)
      obtain ⟨pre, wl, ew⟩ : ∃ pre wl, vs = pre ++ [wl] := ⟨vs.dropLast, vs.getLast (fun z => by rw [z] at ls; exact hne' (List.length_eq_zero_iff.mp ls.symm)), (List.dropLast_concat_getLast _).symm⟩
      have atl : atI vs (-1) = some wl := by rw [ew]; exact atI_last pre wl
      have gl : vs[pre.length]? = some wl := by rw [ew]; simp
      refine ⟨_, rfl, _, rfl, _, rfl, _, rfl, R, vs, _, wl, rfl, rfl, .inl (.inl s4.er), atl, ?_⟩
      refine ⟨_, rfl, D, rfl, s4.g.st, fun v2 d2 H8 hd2 g8 r2 => ?_⟩
      have s5 := s4.to g8
      refine ⟨Nat.zero_le _, fun q1 n1 => ⟨by show 3 ≤ sizeLine; decide, fun q2 n2 => ?_⟩⟩
      have s6 := (s5.new (o := .tup []) n1)
      have s7 := s6.new (o := .lst [wl, v2, .ref q1]) n2
      obtain ⟨dl, hdl, rl⟩ := s7.da.at gl
      have a3 : DaAll K (hid D.p _) [wl, v2, .ref q1] [dl, d2, .tuple []] := .cons rl (.cons ((r2.to (Go.of s5.g.st (same_new n1)).sm).to (Go.of s6.g.st (same_new n2)).sm) (.cons (Da.newT (by rw [hid_ne (s5.g.st.ne_new n1)]; exact kp (upd_same (o := .tup [])) n2) .nil) .nil))
      refine ⟨D, q2, _, rfl, s7.g.st, sqh (s6.g.st.ne_new n2) upd_same, by show 0 < 3; decide, by show 3 ≤ 1000; decide, fun i3 w3 H9 hw3 g9 => ?_⟩
      have s8 := s7.to g9
      obtain ⟨d3, hd3, r3⟩ := a3.at hw3
      have lv3 : Lv 3 d3 := by
        have m := List.mem_of_getElem? hd3
        rcases List.mem_cons.mp m with e | m
        · rw [e]; exact s4.lv dl (List.mem_of_getElem? hdl)
        · rcases List.mem_cons.mp m with e | m
          · rw [e]; exact (odds_lv d2 hd2).up
          · rw [List.mem_singleton.mp m]; exact lv_of 3 _ (by decide +kernel)
      refine ⟨by show 1 ≤ sizeLine; decide, fun q3 n3 => ?_⟩
      refine ⟨R, q3, _, _, rfl, rfl, (s8.new n3).er, upd_same, big _ (by show vs.length + 1 ≤ 1000; omega), fun q4 n4 => ?_⟩
      exact ⟨q4, _, _, rfl, (s8.new n3).put n4 ((s8.new n3).da.app (.cons ((r3.to g9.sm).to (Go.of s8.g.st (same_new n3)).sm) .nil)) (lv_snoc s8.lv (lv_one lv3)) (by rw [List.length_append]; show ds.length + 1 ≤ 4; omega), .inr (by simp)⟩
    rintro σ H7 ⟨R, vs, ds, rfl, s4, hne⟩
    have ls := s4.da.len
    have l4 := s4.len
    refine ⟨MidS K D H p Z way spot bend zs 9, ?_, ?_⟩
    · -- one thing in the place of another
      refine ⟨_, rfl, rfl, _, rfl, ?_⟩
      refine ite2 (fun hk => ?_) (fun _ => ⟨R, vs, ds, rfl, s4.up (by decide), hne⟩)
      refine ⟨_, rfl, _, rfl, spot, rfl, R, vs, rfl, .inl (.inl s4.er), fun q1 n1 => ?_⟩
      have s5 := s4.new (o := .lst (cutV vs none (some spot))) n1
      refine ⟨_, rfl, D, rfl, s5.g.st, fun v2 d2 H8 hd2 g8 r2 => ?_⟩
      have s6 := s5.to g8
      have eq1 := g8.old (s4.g.st.ne_new n1) (upd_same (o := .lst (cutV vs none (some spot))))
      refine ⟨by show 1 ≤ sizeLine; decide, fun q2 n2 => ?_⟩
      have s7 := s6.new (o := .lst [v2]) n2
      have c1 := cutL (lo := none) (hi := some spot) ls
      have c2 := cutL (lo := some (spot + 1)) (hi := none) ls
      refine ⟨q1, q2, _, _, rfl, rfl, kp eq1 n2, upd_same, big _ (by show (cutV vs none (some spot)).length + 1 ≤ 1000; omega), fun q3 n3 => ?_⟩
      have s8 := s7.new (o := .lst (cutV vs none (some spot) ++ [v2])) n3
      refine ⟨_, rfl, _, rfl, _, _, rfl, rfl, _, rfl, R, vs, rfl, .inl (.inl s8.er), fun q4 n4 => ?_⟩
      have s9 := s8.new (o := .lst (cutV vs (some (spot + 1)) none)) n4
      refine ⟨q3, q4, _, _, rfl, rfl, kp upd_same n4, upd_same, big _ (by rw [List.length_append]; show (cutV vs none (some spot)).length + 1 + (cutV vs (some (spot + 1)) none).length ≤ 1000; omega), fun q5 n5 => ?_⟩
      obtain ⟨es1, d1, m1, k1⟩ := s9.da.cut none (some spot)
      obtain ⟨es2, d2', m2, k2⟩ := s9.da.cut (some (spot + 1)) none
      have ra := r2.to (Go.of s6.g.st (same_new (o := .lst [v2]) n2)).sm
      have rb := ra.to (Go.of s7.g.st (same_new (o := .lst (cutV vs none (some spot) ++ [v2])) n3)).sm
      have rc := rb.to (Go.of s8.g.st (same_new (o := .lst (cutV vs (some (spot + 1)) none)) n4)).sm
      have rr : DaAll K _ [v2] [d2] := .cons rc .nil
      exact ⟨q5, _, _, rfl, s9.put n5 ((d1.app rr).app d2') (lv_snoc (lv_snoc (fun e he => s4.lv e (m1 e he)) (lv_one (odds_lv d2 hd2).up)) (fun e he => s4.lv e (m2 e he))) (by rw [List.length_append, List.length_append]; show es1.length + 1 + es2.length ≤ 9; omega), .inr (by simp)⟩
    rintro σ H7 ⟨R, vs, ds, rfl, s4, hne⟩
    have ls := s4.da.len
    have l4 := s4.len
    refine ⟨MidS K D H p Z way spot bend zs 20, ?_, ?_⟩
    · -- another word ahead
      refine ⟨_, rfl, rfl, _, rfl, ?_⟩
      refine ite2 (fun hk => ?_) (fun _ => ⟨R, vs, ds, rfl, s4.up (by decide), hne⟩)
      refine ⟨_, rfl, by show 7 ≤ sizeLine; decide, fun q1 n1 => ?_⟩
      have s5 := s4.new (o := .lst [V.str "lot", .str "before", .str "never", .str "Lot", .str "lots", .str "after", .str ""]) n1
      refine ⟨D, q1, _, rfl, s5.g.st, sqh (s4.g.st.ne_new n1) upd_same, by show 0 < 7; decide, by show 7 ≤ 1000; decide, fun i3 w3 H9 hw3 g9 => ?_⟩
      have s6 := s5.to g9
      obtain ⟨x3, hx3, rfl⟩ : ∃ x : Str, [Str.ofString "lot", "before", "never", "Lot", "lots", "after", ""][i3]? = some x ∧ V.str x = w3 := getmap (f := V.str) hw3
      have okx : ∀ x ∈ [Str.ofString "lot", "before", "never", "Lot", "lots", "after", ""], PyData.strOk x = true ∧ x.length ≤ 100000 := by decide +kernel
      have lv3 : Lv 3 (.str x3) := lv_word 3 _ (okx x3 (List.mem_of_getElem? hx3)).1 (okx x3 (List.mem_of_getElem? hx3)).2
      refine ⟨by show 1 ≤ sizeLine; decide, fun q2 n2 => ?_⟩
      have s7 := s6.new (o := .lst [V.str x3]) n2
      refine ⟨_, rfl, 1, rfl, R, vs, rfl, .inl (.inl s7.er), fun q3 n3 => ?_⟩
      have s8 := s7.new (o := .lst (cutV vs (some 1) none)) n3
      have c2 := cutL (lo := some 1) (hi := none) ls
      refine ⟨q2, q3, _, _, rfl, rfl, kp upd_same n3, upd_same, big _ (by show 1 + (cutV vs (some 1) none).length ≤ 1000; omega), fun q5 n5 => ?_⟩
      obtain ⟨es2, d2', m2, k2⟩ := s8.da.cut (some 1) none
      exact ⟨q5, _, _, rfl, s8.put n5 ((DaAll.cons (.str x3) .nil).app d2') (lv_snoc (lv_one lv3) (fun e he => s4.lv e (m2 e he))) (by rw [List.length_append]; show 1 + es2.length ≤ 20; omega), .inr (by simp)⟩
    rintro σ H7 ⟨R, vs, ds, rfl, s4, hne⟩
    have ls := s4.da.len
    have l4 := s4.len
    refine ⟨MidS K D H p Z way spot bend zs 20, ?_, ?_⟩
    · -- the lot's names by themselves
      refine ⟨_, rfl, rfl, _, rfl, ?_⟩
      refine ite2 (fun hk => ?_) (fun _ => ⟨R, vs, ds, rfl, s4, hne⟩)
      refine ⟨by show 1 ≤ sizeLine; decide, fun q1 n1 => ⟨_, rfl, ?_⟩⟩
      have s5 := s4.new (o := .lst [V.str "lot"]) n1
      refine ⟨q1, Z, _, _, rfl, rfl, upd_same, s5.ez, big _ (by show 1 + (zs.map V.str).length ≤ 1000; omega), fun q5 n5 => ?_⟩
      exact ⟨q5, _, _, rfl, s5.put n5 ((DaAll.cons (.str _) .nil).app (DaAll.strs zs)) (lv_snoc (lv_one lotS) lz3) (by rw [List.length_append]; show 1 + (zs.map PyData.str).length ≤ 20; omega), .inr (by simp)⟩
    rintro σ H7 ⟨R, vs, ds, rfl, s4, hne⟩
    have ls := s4.da.len
    have l4 := s4.len
    refine ⟨MidS K D H p Z way spot bend zs 20, ?_, ?_⟩
    · -- another thing in the place of the lot
      refine ⟨_, rfl, rfl, _, rfl, ?_⟩
      refine ite2 (fun hk => ?_) (fun _ => ⟨R, vs, ds, rfl, s4, hne⟩)
      obtain ⟨z0, zr, hz0⟩ : ∃ z0 zr, zs = z0 :: zr := by
        cases zs with
        | nil => exact absurd rfl zne
        | cons z0 zr => exact ⟨z0, zr, rfl⟩
      refine ⟨_, rfl, _, rfl, _, rfl, Z, _, rfl, .inl (.inl s4.ez), fun q1 n1 => ?_⟩
      have s5 := s4.new (o := .lst (zs.map V.str).reverse) n1
      refine ⟨q1, _, rfl, .inl ⟨.inl (.inl upd_same), fun q2 n2 => ?_⟩⟩
      have s6 := s5.new (o := .tup (zs.map V.str).reverse) n2
      refine ⟨_, rfl, _, rfl, 1, rfl, Z, _, rfl, .inl (.inl s6.ez), fun q3 n3 => ?_⟩
      have s7 := s6.new (o := .lst (cutV (zs.map V.str) none (some 1))) n3
      have c1 := cutV_length (zs.map V.str) none (some 1)
      refine ⟨Z, q3, _, _, rfl, rfl, s7.ez, upd_same, big _ (by omega), fun q4 n4 => ?_⟩
      have s8 := s7.new (o := .lst (zs.map V.str ++ cutV (zs.map V.str) none (some 1))) n4
      refine ⟨q4, _, rfl, .inl ⟨.inl (.inl upd_same), fun q5 n5 => ?_⟩⟩
      have s9 := s8.new (o := .tup (zs.map V.str ++ cutV (zs.map V.str) none (some 1))) n5
      refine ⟨Nat.zero_le _, fun q6 n6 => ?_⟩
      have s10 := s9.new (o := .tup []) n6
      refine ⟨_, rfl, Z, _, 0, .str z0, rfl, rfl, .inl (.inl s10.ez), atI_of (by decide) (by rw [hz0]; rfl), by show 5 ≤ sizeLine; decide, fun q7 n7 => ?_⟩
      have s11 := s10.new (o := .lst [.ref Z, .ref q2, .ref q5, .ref q6, .str z0]) n7
      refine ⟨D, q7, _, rfl, s11.g.st, sqh (s10.g.st.ne_new n7) upd_same, by show 0 < 5; decide, by show 5 ≤ 1000; decide, fun i3 w3 H9 hw3 g9 => ?_⟩
      have s12 := s11.to g9
      have t2 : _ = some (HO.tup (zs.map V.str).reverse) := g9.old (s5.g.st.ne_new n2) (kp (kp (kp (kp (kp (upd_same (o := .tup (zs.map V.str).reverse)) n3) n4) n5) n6) n7)
      have t5 : _ = some (HO.tup (zs.map V.str ++ cutV (zs.map V.str) none (some 1))) := g9.old (s8.g.st.ne_new n5) (kp (kp (upd_same (o := .tup (zs.map V.str ++ cutV (zs.map V.str) none (some 1)))) n6) n7)
      have t6 : _ = some (HO.tup []) := g9.old (s9.g.st.ne_new n6) (kp (upd_same (o := .tup [])) n7)
      obtain ⟨es1, d1, m1, k1⟩ := (DaAll.strs (K := K) (H := hid D.p H9) zs).cut none (some 1)
      have lvc : ∀ e ∈ zs.map PyData.str ++ es1, Lv 2 e := lv_snoc lz2 (fun e he => lz2 e (m1 e he))
      have rev : (zs.map V.str).reverse = zs.reverse.map V.str := List.map_reverse.symm
      have a5 : DaAll K (hid D.p H9) [.ref Z, .ref q2, .ref q5, .ref q6, .str z0] [.list (zs.map .str), .tuple (zs.reverse.map .str), .tuple (zs.map .str ++ es1), .tuple [], .str z0] :=
        .cons (Da.newL (by rw [hid_ne nZp]; exact s12.ez) (DaAll.strs zs)) (.cons (Da.newT (by rw [hid_ne (s5.g.st.ne_new n2)]; exact t2) (by rw [rev]; exact DaAll.strs zs.reverse))
          (.cons (Da.newT (by rw [hid_ne (s8.g.st.ne_new n5)]; exact t5) ((DaAll.strs zs).app d1)) (.cons (Da.newT (by rw [hid_ne (s9.g.st.ne_new n6)]; exact t6) .nil) (.cons (.str z0) .nil))))
      obtain ⟨d3, hd3, r3⟩ := a5.at hw3
      have lv3 : Lv 3 d3 := by
        have m := List.mem_of_getElem? hd3
        simp only [List.mem_cons, List.not_mem_nil, or_false] at m
        rcases m with e | e | e | e | e
        · rw [e]; exact ⟨by omega, lz2⟩
        · rw [e]; exact ⟨by rw [List.length_map, List.length_reverse]; omega, lv_names (fun x hx => nz x (List.mem_reverse.mp hx)) 2⟩
        · rw [e]; exact ⟨by rw [List.length_append]; omega, lvc⟩
        · rw [e]; exact lv_of 3 _ (by decide +kernel)
        · rw [e]; exact lv_nm (nz z0 (by rw [hz0]; exact List.mem_cons_self))
      refine ⟨by show 2 ≤ sizeLine; decide, fun q8 n8 => ?_⟩
      exact ⟨q8, _, _, rfl, s12.put n8 (.cons (.str "lot") (.cons r3 .nil)) (fun e he => by
        rcases List.mem_cons.mp he with z | he
        · rw [z]; exact lotS
        · rw [List.mem_singleton.mp he]; exact lv3) (by show 2 ≤ 20; decide), .inr (by simp)⟩
    rintro σ H7 ⟨R, vs, ds, rfl, s4, hne⟩
    have ls := s4.da.len
    have l4 := s4.len
    refine ⟨MidS K D H p Z way spot bend zs 20, ?_, ?_⟩
    · -- something within the lot
      refine ⟨_, rfl, rfl, _, rfl, ?_⟩
      refine ite2 (fun hk => ?_) (fun _ => ⟨R, vs, ds, rfl, s4, hne⟩)
      refine ⟨_, rfl, _, rfl, spot, rfl, Z, _, rfl, .inl (.inl s4.ez), fun q1 n1 => ?_⟩
      have s5 := s4.new (o := .lst (cutV (zs.map V.str) none (some spot))) n1
      refine ⟨_, rfl, D, rfl, s5.g.st, fun v2 d2 H8 hd2 g8 r2 => ?_⟩
      have s6 := s5.to g8
      have eq1 := g8.old (s4.g.st.ne_new n1) (upd_same (o := .lst (cutV (zs.map V.str) none (some spot))))
      refine ⟨by show 1 ≤ sizeLine; decide, fun q2 n2 => ?_⟩
      have s7 := s6.new (o := .lst [v2]) n2
      have c1 := cutV_length (zs.map V.str) none (some spot)
      have c2 := cutV_length (zs.map V.str) (some spot) none
      refine ⟨q1, q2, _, _, rfl, rfl, kp eq1 n2, upd_same, big _ (by show (cutV (zs.map V.str) none (some spot)).length + 1 ≤ 1000; omega), fun q3 n3 => ?_⟩
      have s8 := s7.new (o := .lst (cutV (zs.map V.str) none (some spot) ++ [v2])) n3
      refine ⟨_, rfl, _, rfl, _, rfl, Z, _, rfl, .inl (.inl s8.ez), fun q4 n4 => ?_⟩
      have s9 := s8.new (o := .lst (cutV (zs.map V.str) (some spot) none)) n4
      refine ⟨q3, q4, _, _, rfl, rfl, kp upd_same n4, upd_same, big _ (by rw [List.length_append]; show (cutV (zs.map V.str) none (some spot)).length + 1 + (cutV (zs.map V.str) (some spot) none).length ≤ 1000; omega), fun q5 n5 => ?_⟩
      have s10 := s9.new (o := .lst (cutV (zs.map V.str) none (some spot) ++ [v2] ++ cutV (zs.map V.str) (some spot) none)) n5
      refine ⟨q5, _, rfl, .inl ⟨.inl (.inl upd_same), fun q6 n6 => ?_⟩⟩
      have s11 := s10.new (o := .tup (cutV (zs.map V.str) none (some spot) ++ [v2] ++ cutV (zs.map V.str) (some spot) none)) n6
      refine ⟨by show 2 ≤ sizeLine; decide, fun q8 n8 => ?_⟩
      have ra := r2.to (Go.of s6.g.st (same_new (o := .lst [v2]) n2)).sm
      have rb := ra.to (Go.of s7.g.st (same_new (o := .lst (cutV (zs.map V.str) none (some spot) ++ [v2])) n3)).sm
      have rc := rb.to (Go.of s8.g.st (same_new (o := .lst (cutV (zs.map V.str) (some spot) none)) n4)).sm
      have rd := rc.to (Go.of s9.g.st (same_new (o := .lst (cutV (zs.map V.str) none (some spot) ++ [v2] ++ cutV (zs.map V.str) (some spot) none)) n5)).sm
      have re := rd.to (Go.of s10.g.st (same_new (o := .tup (cutV (zs.map V.str) none (some spot) ++ [v2] ++ cutV (zs.map V.str) (some spot) none)) n6)).sm
      have rr : DaAll K _ [v2] [d2] := .cons re .nil
      obtain ⟨ws1, e1, m1, k1⟩ := cut_strs zs none (some spot)
      obtain ⟨ws2, e2, m2, k2⟩ := cut_strs zs (some spot) none
      have a1 : ∀ H, DaAll K H (cutV (zs.map V.str) none (some spot)) (ws1.map .str) := fun H => by rw [e1]; exact DaAll.strs ws1
      have a2 : ∀ H, DaAll K H (cutV (zs.map V.str) (some spot) none) (ws2.map .str) := fun H => by rw [e2]; exact DaAll.strs ws2
      refine ⟨q8, _, _, rfl, s11.put n8 (.cons (.str "lot") (.cons (Da.newT (by rw [hid_ne (s10.g.st.ne_new n6)]; exact upd_same) (((a1 _).app rr).app (a2 _))) .nil)) (fun e he => ?_) (by show 2 ≤ 20; decide), .inr (by simp)⟩
      rcases List.mem_cons.mp he with z | he
      · rw [z]; exact lotS
      · rw [List.mem_singleton.mp he]
        exact ⟨by rw [List.length_append, List.length_append, List.length_map, List.length_map]; show ws1.length + 1 + ws2.length ≤ 60; omega, lv_snoc (lv_snoc (lv_names (fun x hx => nz x (m1 x hx)) 2) (lv_one (odds_lv d2 hd2))) (lv_names (fun x hx => nz x (m2 x hx)) 2)⟩
    rintro σ H7 ⟨R, vs, ds, rfl, s4, hne⟩
    have ls := s4.da.len
    have l4 := s4.len
    refine ⟨_, rfl, rfl, _, rfl, ?_⟩
    have lt : Lv 4 (.tuple ds) := ⟨by omega, s4.lv⟩
    refine ite2 (fun hk => ?_) (fun hk => ?_)
    · refine ⟨_, rfl, R, _, rfl, .inl ⟨.inl (.inl s4.er), fun q1 n1 => ⟨by show 1 ≤ sizeLine; decide, fun q2 n2 => ?_⟩⟩⟩
      have s5 := s4.new (o := .tup vs) n1
      have s6 := s5.new (o := .tup [.ref q1]) n2
      refine q _ (.tuple [.tuple ds]) _ (Da.newT (by rw [hid_ne (s5.g.st.ne_new n2)]; exact upd_same) (.cons (Da.newT (by rw [hid_ne (s4.g.st.ne_new n1)]; exact kp upd_same n2) s6.da) .nil)) ⟨by show 1 ≤ 60; decide, lv_one lt⟩ s6.g
    · refine ⟨_, rfl, R, _, rfl, .inl ⟨.inl (.inl s4.er), fun q1 n1 => ?_⟩⟩
      have s5 := s4.new (o := .tup vs) n1
      exact q _ (.tuple ds) _ (Da.newT (by rw [hid_ne (s4.g.st.ne_new n1)]; exact upd_same) s5.da) lt.up s5.g
end
end Th
namespace Th
open PySem PySem.Spec PyProof.Rows L2
abbrev s_p_is_name : Stmt := topS 3
theorem sc_p_is_name : FnScope ["value", "sign"] ["value"] (defScope s_p_is_name) := ⟨rfl, rfl, rfl, by decide +kernel, rfl, by decide +kernel, by decide +kernel⟩

section
variable {P : Program} {w : World} {K : PySem.W.Frag} {mg : Str → Option Value} {base : Heap}
theorem has_p_is_name (n : Nat) (Z : Zs mg) (gL : ∃ t, mg "_LETTERS" = some (.str abc t)) (gM : ∃ t, mg "_MOST_LETTERS" = some (.int 6 t)) (A : At K mg "is_name" s_p_is_name ["value"]) : Has P w K mg base "is_name" s_p_is_name 1 ["value"] (spJ K n nmD) := by
  obtain ⟨f, fd, F, mg1, bd⟩ := A
  obtain ⟨tL, g_LETTERS⟩ := gL
  obtain ⟨tM, g_MOST_LETTERS⟩ := gM
  refine ⟨f, fd, ?_, mg1, F.kp, bd, F⟩
  refine F.ok sc_p_is_name (fun vs H Q E h => ?_) (fun cdv A outer s H vs Q E hr h => ?_)
  · obtain ⟨v, d, rfl, _⟩ := h
    rfl
  · obtain ⟨v, d, rfl, r, lv, q⟩ := h
    refine ⟨_, (pss_one (ps_ret (pe_and (pe_callB call_isi (by rfl) Z.isinstance_ (by decide +kernel) (pa_cons (pv 0) (pa_cons (pe_bltn (v := .ty "str") (by rfl) Z.str_ (by decide +kernel) rfl) pa_nil))) (pe_and (pe_chain op_le op_le pe_int (pe_callB call_len_str (by rfl) Z.len_ (by decide +kernel) (pa_cons (pv 0) pa_nil)) (pe_glob (v := .int 6) (by rfl) g_MOST_LETTERS ⟨_, rfl⟩)) (pe_one (pe_callB (cr_all rfl) (by rfl) Z.all_ (by decide +kernel) (pa_cons (pe_lc (own := [("sign", 1)]) (g := gName 1) (by rfl) sc_p_is_name.nd (pi_str (pv 0)) (blkOk_by (own := [("sign", 1)]) (N := ["value", "sign"]) (sc := defScope s_p_is_name) (by decide +kernel)) (fun _ _ _ _ _ => pg_name (i := 1) sc_p_is_name.nd rfl (Or.inl rfl)) (fun _ _ _ _ _ => pts_nil) (fun _ _ _ _ _ => (pe_cmpR op_in_sign (pv 1) (pe_glob (v := .str abc) (by rfl) g_LETTERS ⟨_, rfl⟩) (by rfl)))) pa_nil))))))), ?_⟩
    refine ⟨_, rfl, v, _, _, _, _, rfl, .ty "str", r.ty, kit_ty (kit_str d r.nodict), _, rfl, ?_⟩
    cases d with
    | str x =>
      have hv : v = .str x := by
        cases r
        rfl
      subst hv
      have hx : x.length ≤ 100000 := by
        cases n <;> exact lv.1
      refine iteT ?_
      refine ⟨_, rfl, _, rfl, sline hx, _, _, rfl, rfl, _, rfl, ?_⟩
      have fin : ∀ b : Bool, b = isNm x → Q (.bl b) H := fun b e => by
        rw [e]
        exact q H (Same.refl H)
      refine ite2 (fun h1 => ?_) (fun h1 => ⟨_, rfl, iteF (fin _ ?_)⟩)
      · refine ⟨_, _, rfl, rfl, _, rfl, ?_⟩
        refine ite2 (fun h2 => ?_) (fun h2 => fin _ ?_)
        · refine ⟨_, rfl, x, rfl, fun L nL => ?_⟩
          refine lc_it (walk_str (z := x)) (fun i H2 => Same H H2 ∧ H2 L = some (.lst (((cs x).take i).map fun c => V.bl (decide (c ∈ cs abc))))) ⟨same_new nL, upd_same⟩ (fun _ _ _ _ => trivial) ?_ ?_
          · rintro i y H2 H3 hi ⟨s2, e2⟩ ⟨rfl, c, hc, rfl⟩
            have hc' : (cs x)[i]? = some c := by
              unfold cs
              rw [Array.getElem?_toList]
              exact hc
            have hl := lt_of_get hc'
            rw [← cs_len] at hl
            refine ⟨rfl, _, rfl, c, abc, rfl, rfl, _, e2, slineL ?_, ?_⟩
            · rw [List.length_map, List.length_take]
              omega
            · refine ⟨same_mut s2 nL, ?_⟩
              rw [upd_same, take_succ_map hc']
              rfl
          · rintro H2 ⟨s2, e2⟩
            have e3 : (cs x).take x.cps.size = cs x := List.take_of_length_le (by rw [← cs_len]; exact Nat.le_refl _)
            rw [e3] at e2
            refine ⟨L, (cs x).map fun c => decide (c ∈ cs abc), rfl, .inl (.inl (by rw [e2, List.map_map]; rfl)), ?_⟩
            have e4 : ((cs x).map fun c => decide (c ∈ cs abc)).all id = isNm x := by
              unfold isNm
              have a1 : decide (1 ≤ x.length) = true := decide_eq_true (by have := of_decide_eq_true h1; omega)
              have a2 : decide (x.length ≤ 6) = true := decide_eq_true (by have := of_decide_eq_true h2; omega)
              rw [a1, a2, List.all_map]
              rfl
            rw [e4]
            exact q H2 s2
        · have a2 : ¬ x.length ≤ 6 := fun z => h2 (decide_eq_true (by omega))
          unfold isNm
          rw [decide_eq_false a2, Bool.and_false, Bool.false_and]
      · have a1 : ¬ 1 ≤ x.length := fun z => h1 (decide_eq_true (by omega))
        unfold isNm
        rw [decide_eq_false a1, Bool.false_and, Bool.false_and]
    | _ => exact iteF (q H (Same.refl H))
end
end Th
namespace Th
open PySem PySem.Spec PyProof.Rows L2
abbrev s_p_are_names : Stmt := topS 4
theorem sc_p_are_names : FnScope ["values", "value"] ["values"] (defScope s_p_are_names) := ⟨rfl, rfl, rfl, by decide +kernel, rfl, by decide +kernel, by decide +kernel⟩
/-- whether all items of a tuple are names -/
def spNmsT (K : PySem.W.Frag) : Sp := fun vs H Q _ => ∃ (a : Addr) (xs : List V) (ds : List PyData), vs = [.ref a] ∧ SqT K H a xs ∧ DaAll K H xs ds ∧ ds.length ≤ 1000 ∧ (∀ d ∈ ds, Lv 5 d) ∧ ∀ H', Same H H' → Q (.bl (ds.all nmD)) H'
theorem all_take {f : PyData → Bool} (l : List PyData) : (l.map f).all id = l.all f := by
  rw [List.all_map]
  rfl
section
variable {P : Program} {w : World} {K : PySem.W.Frag} {mg : Str → Option Value} {base : Heap}
theorem has_p_are_names (Z : Zs mg) (A : At K mg "are_names" s_p_are_names ["values"]) (h_p_is_name : Has P w K mg base "is_name" s_p_is_name 1 ["value"] (spJ K 5 nmD)) : Has P w K mg base "are_names" s_p_are_names 2 ["values"] (spNmsT K) := by
  obtain ⟨f, fd, F, mg1, bd⟩ := A
  obtain ⟨f_p_is_name, fd_p_is_name, G_p_is_name, m_p_is_name, k_p_is_name, b_p_is_name, F_p_is_name⟩ := h_p_is_name
  refine ⟨f, fd, ?_, mg1, F.kp, bd, F⟩
  refine F.ok sc_p_are_names (fun vs H Q E h => ?_) (fun cdv A outer s H vs Q E hr h => ?_)
  · obtain ⟨a, xs, ds, rfl, _⟩ := h
    rfl
  · obtain ⟨a, xs, ds, rfl, hS, r, hl, lv, q⟩ := h
    refine ⟨_, (pss_one (ps_ret (pe_callB (cr_all rfl) (by rfl) Z.all_ (by decide +kernel) (pa_cons (pe_lc (own := [("value", 1)]) (g := gName 1) (by rfl) sc_p_are_names.nd (pi_tup (pv 0)) (blkOk_by (own := [("value", 1)]) (N := ["values", "value"]) (sc := defScope s_p_are_names) (by decide +kernel)) (fun _ _ _ _ _ => pg_name (i := 1) sc_p_are_names.nd rfl (Or.inl rfl)) (fun _ _ _ _ _ => pts_nil) (fun _ _ _ _ _ => (pe_call G_p_is_name (hr.mono (by decide)) (by rfl) m_p_is_name k_p_is_name b_p_is_name .nil pass0 (pa_cons (pv 1) pa_nil)))) pa_nil)))), ?_⟩
    refine ⟨_, rfl, a, rfl, ⟨xs, hS⟩, fun L nL => ?_⟩
    have hlen := r.len
    refine lc_tup (K := K) (a := a) (xs := xs) (fun i H2 => Same H H2 ∧ H2 L = some (.lst ((ds.take i).map fun d => V.bl (nmD d)))) ⟨same_new nL, upd_same⟩ (fun i H2 _ z => same_t z.1 hS) ?_ ?_
    · rintro i v H2 hi ⟨s2, e2⟩
      obtain ⟨d, hd, rd⟩ := r.at hi
      refine ⟨rfl, _, rfl, v, d, rfl, rd.to s2, lv d (List.mem_of_getElem? hd), fun H3 s3 => ?_⟩
      refine ⟨_, s3 _ _ e2, slineL (by rw [List.length_map, List.length_take]; omega), same_mut (s2.trans s3) nL, ?_⟩
      rw [upd_same, take_succ_map hd]
    · rintro H2 ⟨s2, e2⟩
      rw [hlen, List.take_length] at e2
      refine ⟨L, ds.map nmD, rfl, .inl (.inl (by rw [e2, List.map_map]; rfl)), ?_⟩
      rw [all_take]
      exact q H2 s2
end
end Th
namespace Th
open PySem PySem.Spec PyProof.Rows L2
abbrev s_p_is_lot : Stmt := topS 6
theorem sc_p_is_lot : FnScope ["value"] ["value"] (defScope s_p_is_lot) := ⟨rfl, rfl, rfl, by decide +kernel, rfl, by decide +kernel, by decide +kernel⟩

section
variable {P : Program} {w : World} {K : PySem.W.Frag} {mg : Str → Option Value} {base : Heap}
theorem has_p_is_lot (Z : Zs mg) (A : At K mg "is_lot" s_p_is_lot ["value"]) (h_p_are_names : Has P w K mg base "are_names" s_p_are_names 2 ["values"] (spNmsT K)) : Has P w K mg base "is_lot" s_p_is_lot 3 ["value"] (spJ K 4 lotD) := by
  obtain ⟨f, fd, F, mg1, bd⟩ := A
  obtain ⟨f_p_are_names, fd_p_are_names, G_p_are_names, m_p_are_names, k_p_are_names, b_p_are_names, F_p_are_names⟩ := h_p_are_names
  refine ⟨f, fd, ?_, mg1, F.kp, bd, F⟩
  refine F.ok sc_p_is_lot (fun vs H Q E h => ?_) (fun cdv A outer s H vs Q E hr h => ?_)
  · obtain ⟨v, d, rfl, _⟩ := h
    rfl
  · obtain ⟨v, d, rfl, r, lv, q⟩ := h
    have nd := r.nodict
    refine ⟨_, (pss_cons (ps_if (PW.pt (pw_or (pt_not (pt_val (pe_callB call_isi (by rfl) Z.isinstance_ (by decide +kernel) (pa_cons (pv 0) (pa_cons (pe_bltn (v := .ty "tuple") (by rfl) Z.tuple_ (by decide +kernel) rfl) pa_nil))))) (pw_or (pt_cmpR op_eq (pe_callB call_len_seq (by rfl) Z.len_ (by decide +kernel) (pa_cons (pv 0) pa_nil)) pe_int (nomark _)) (pw_or1 (pt_not (pt_val (pe_call G_p_are_names (hr.mono (by decide)) (by rfl) m_p_are_names k_p_are_names b_p_are_names .nil pass0 (pa_cons (pv 0) pa_nil)))))))) (pss_one (ps_ret pe_bl)) pss_nil) (pss_one (ps_ret (pe_cmpR (op_eqD hr.units) (pe_callTy call_list_of (by rfl) Z.list_ (by decide +kernel) (pa_cons (pv 0) pa_nil)) (pe_callB (cr_sortedSetS rfl) (by rfl) Z.sorted_ (by decide +kernel) (pa_cons (pe_callTy (cr_setS rfl) (by rfl) Z.set_ (by decide +kernel) (pa_cons (pv 0) pa_nil)) pa_nil)) (nomark _))))), ?_⟩
    refine ⟨_, rfl, v, _, _, _, _, rfl, .ty "tuple", r.ty, kit_ty (kit_tuple d nd), _, rfl, ?_⟩
    cases d with
    | tuple ds =>
      cases r with
      | tup hs ht ra =>
        rename_i a xs
        have hl := ra.len
        have hl2 : ds.length ≤ 60 := lv.1
        refine iteF ?_
        refine ⟨_, rfl, a, xs, rfl, .inr hs, rfl, _, rfl, ?_⟩
        refine ite2 (fun h0 => ?_) (fun h0 => ?_)
        · have e0 : ds = [] := by
            have z : ((xs.length : Nat) : Int) = 0 := V.int.inj (of_decide_eq_true h0)
            exact List.length_eq_zero_iff.mp (by omega)
          subst e0
          exact iteT (q H (Same.refl H))
        · have ne0 : ds.isEmpty = false := by
            cases ds with
            | nil => exact absurd (decide_eq_true (by rw [hl]; rfl)) h0
            | cons _ _ => rfl
          refine ⟨_, rfl, a, xs, ds, rfl, hs, ra, by omega, fun d hd => Lv.up _ _ (lv.2 d hd) |> Lv.up _ _, fun H1 s1 => ⟨_, rfl, ?_⟩⟩
          cases hn : ds.all nmD with
          | false =>
            refine iteT ?_
            have q1 := q H1 s1
            rw [show lotD (.tuple ds) = false by rw [lotD_tup, hn, Bool.and_false, Bool.false_and]] at q1
            exact q1
          | true =>
            refine iteF ?_
            have es := nms_strs hn
            generalize hx : ds.map strD = zs at es
            have ra' : DaAll K H xs (zs.map .str) := by rw [← es]; exact ra
            have exs := ra'.isStrs
            subst exs
            have hs1 := same_t s1 hs
            have lz : zs.length ≤ 60 := by rw [← hx, List.length_map]; exact hl2
            refine ⟨_, rfl, a, _, rfl, .inr hs1, fun l nl => ?_⟩
            refine ⟨_, rfl, a, zs, rfl, .inr (same_t (same_new nl) hs1), scan_small (by omega), fun p np => ?_⟩
            have lo := once_length zs []
            refine ⟨p, _, rfl, upd_same, by simp at lo; omega, fun ys u pm so nu => ?_⟩
            have el : (upd (upd (upd H1 l (.lst (zs.map V.str))) p (SetS P w p (once [] zs))) u (.lst (ys.map V.str))) l = some (.lst (zs.map V.str)) := by
              have z1 : l ≠ p := ne_of_none (upd_same (H := H1) (a := l)) np
              have z2 : (upd (upd H1 l (.lst (zs.map V.str))) p (SetS P w p (once [] zs))) l = some (.lst (zs.map V.str)) := by rw [upd_ne z1]; exact upd_same
              rw [upd_ne (ne_of_none z2 nu)]
              exact z2
            have ly : ys.length ≤ 60 := by rw [pm.length_eq]; simp at lo; omega
            have nz : ∀ x ∈ zs, isNm x = true := fun x hx' => by
              have m : PyData.str x ∈ ds := by rw [es]; exact List.mem_map.mpr ⟨x, hx', rfl⟩
              exact List.all_eq_true.mp hn _ m
            have ny : ∀ x ∈ ys, isNm x = true := fun x hx' => by
              have m := (once_mem zs [] x).mp (pm.mem_iff.mp hx')
              rcases m with m | m
              · cases m
              · exact nz x m
            refine ⟨.list (zs.map .str), .list (ys.map .str), .lst (.inl (.inl el)) (DaAll.dp (K := K) _ _ (DaAll.strs zs)), .lst (.inl (.inl upd_same)) (DaAll.dp (K := K) _ _ (DaAll.strs ys)), (lv_lotL (n := 0) nz lz).shaped (by decide), (lv_lotL (n := 0) ny ly).shaped (by decide), ?_⟩
            have e : PyData.eqv (.list (zs.map .str)) (.list (ys.map .str)) = lotD (.tuple ds) := by
              have e1 : PyData.eqv (.list (zs.map .str)) (.list (ys.map .str)) = PyData.eqvAll (zs.map .str) (ys.map .str) := by simp [PyData.eqv]
              rw [lotD_tup, e1, eqv_strs, ne0, hn, hx, Bool.eq_iff_iff, decide_eq_true_eq, lot_iff pm so]
              simp
            rw [e]
            exact q _ (((s1.trans (same_new nl)).trans (same_new np)).trans (same_new nu))
    | _ => exact iteT (iteT (q H (Same.refl H)))
end
end Th
namespace Th
open PySem PySem.Spec PyProof.Rows L2
abbrev s_p_is_before : Stmt := topS 11
theorem sc_p_is_before : FnScope ["value"] ["value"] (defScope s_p_is_before) := ⟨rfl, rfl, rfl, by decide +kernel, rfl, by decide +kernel, by decide +kernel⟩
/-- a tuple that says before, with two names -/
def befD : PyData → Bool
  | .tuple (d :: r) => eqS d "before" && r.length == 2 && r.all nmD
  | _ => false
def spBef (K : PySem.W.Frag) : Sp := fun vs H Q _ => ∃ (a : Addr) (xs : List V) (ds : List PyData), vs = [.ref a] ∧ SqT K H a xs ∧ DaAll K H xs ds ∧ Lv 5 (.tuple ds) ∧ ds ≠ [] ∧ ∀ H', Same H H' → Q (.bl (befD (.tuple ds))) H'
theorem cut1T (xs : List V) : cutV xs (some 1) none = xs.drop 1 := by
  unfold cutV
  rw [show HT.sIx xs.length 0 (some 1) = min 1 xs.length from HT.sIx_nat xs.length 0 1, HT.sIx_none]
  cases xs with
  | nil => rfl
  | cons x r =>
    rw [show min 1 (x :: r).length = 1 by rw [List.length_cons]; omega]
    show (List.take ((x :: r).length - 1) r) = r
    rw [List.length_cons, Nat.add_sub_cancel]
    exact List.take_length
section
variable {P : Program} {w : World} {K : PySem.W.Frag} {mg : Str → Option Value} {base : Heap}
theorem has_p_is_before (Z : Zs mg) (A : At K mg "_is_before" s_p_is_before ["value"]) (h_p_are_names : Has P w K mg base "are_names" s_p_are_names 2 ["values"] (spNmsT K)) : Has P w K mg base "_is_before" s_p_is_before 3 ["value"] (spBef K) := by
  obtain ⟨f, fd, F, mg1, bd⟩ := A
  obtain ⟨f_p_are_names, fd_p_are_names, G_p_are_names, m_p_are_names, k_p_are_names, b_p_are_names, F_p_are_names⟩ := h_p_are_names
  refine ⟨f, fd, ?_, mg1, F.kp, bd, F⟩
  refine F.ok sc_p_is_before (fun vs H Q E h => ?_) (fun cdv A outer s H vs Q E hr h => ?_)
  · obtain ⟨a, xs, ds, rfl, _⟩ := h
    rfl
  · obtain ⟨a, xs, ds, rfl, hs, ra, lv, hne, q⟩ := h
    refine ⟨_, (pss_one (ps_ret (pe_and (pe_cmpR op_eq (pe_callB call_len_seq (by rfl) Z.len_ (by decide +kernel) (pa_cons (pv 0) pa_nil)) pe_int (nomark _)) (pe_and (pe_cmpR (op_eqD hr.units) (pe_ix ix_tup (pv 0) pe_int (fun _ _ => rfl)) pe_str (nomark _)) (pe_one (pe_call G_p_are_names (hr.mono (by decide)) (by rfl) m_p_are_names k_p_are_names b_p_are_names .nil pass0 (pa_cons (pe_slice sl_tup (pv 0) (po_some pe_int) po_none) pa_nil))))))), ?_⟩
    have hl := ra.len
    have hl2 : ds.length ≤ 60 := lv.1
    refine ⟨_, rfl, a, xs, rfl, .inr hs, rfl, _, rfl, ?_⟩
    cases ds with
    | nil => exact absurd rfl hne
    | cons d r =>
      have hl' : xs.length = r.length + 1 := hl
      refine ite2 (fun h3 => ?_) (fun h3 => ?_)
      · have l3 : r.length = 2 := by
          have z : ((xs.length : Nat) : Int) = 3 := V.int.inj (of_decide_eq_true h3)
          omega
        obtain ⟨v, hv, rv⟩ := ra.at' (i := 0) (d := d) rfl
        refine ⟨_, rfl, a, xs, 0, v, rfl, rfl, hs, atI_of (by decide) hv, d, .str "before", Da.dp _ _ rv, .str _, (lv_head lv).shaped (by decide), (lv_of 0 _ (by decide +kernel) : Lv 0 (.str "before")).shaped (by decide), _, rfl, ?_⟩
        rw [eqv_str]
        refine ite2 (fun hb => ?_) (fun hb => ?_)
        · refine ⟨_, rfl, 1, rfl, a, xs, rfl, hs, ?_, fun p np => ?_⟩
          · rw [show HT.sIx xs.length 0 (some 1) = min 1 xs.length from HT.sIx_nat xs.length 0 1]
            omega
          · rw [cut1T]
            refine ⟨p, xs.drop 1, r, rfl, .inl (.inl upd_same), (ra.drop 1).to (same_new np), by omega, fun x hx => Lv.up _ _ (lv_in lv (List.mem_cons_of_mem _ hx)), fun H2 s2 => ?_⟩
            have e : befD (.tuple (d :: r)) = r.all nmD := by
              show (eqS d "before" && r.length == 2 && r.all nmD) = _
              rw [hb, l3]
              rfl
            rw [← e]
            exact q H2 ((same_new np).trans s2)
        · have e : befD (.tuple (d :: r)) = false := by
            show (eqS d "before" && r.length == 2 && r.all nmD) = false
            cases z : eqS d "before" with
            | true => exact absurd z hb
            | false => rfl
          have q1 := q H (Same.refl H)
          rw [e] at q1
          exact q1
      · have e : befD (.tuple (d :: r)) = false := by
          show (eqS d "before" && r.length == 2 && r.all nmD) = false
          have l3 : ¬ r.length = 2 := fun z => h3 (decide_eq_true (by rw [hl', z]; rfl))
          rw [show (r.length == 2) = false from beq_eq_false_iff_ne.mpr l3, Bool.and_false, Bool.false_and]
        have q1 := q H (Same.refl H)
        rw [e] at q1
        exact q1
end
end Th
namespace Th
open PySem PySem.Spec PyProof.Rows L2
abbrev s_p_is_statement : Stmt := topS 10
theorem sc_p_is_statement : FnScope ["value"] ["value"] (defScope s_p_is_statement) := ⟨rfl, rfl, rfl, by decide +kernel, rfl, by decide +kernel, by decide +kernel⟩
theorem befD_of (d : PyData) (r : List PyData) : befD (.tuple (d :: r)) = (eqS d "before" && r.length == 2 && r.all nmD) := rfl
/-- what a statement is, head by head -/
theorem stD_eq (d : PyData) (r : List PyData) : stD (.tuple (d :: r)) = if eqS d "lot" = true then (r.length == 1 && r.all lotD) else (PyData.eqv (.tuple (d :: r)) (.tuple [.str "never"]) || befD (.tuple (d :: r))) := by
  have e1 : PyData.eqv (.tuple (d :: r)) (.tuple [.str "never"]) = (eqS d "never" && r.isEmpty) := by
    have z : PyData.eqv (.tuple (d :: r)) (.tuple [.str "never"]) = (PyData.eqv d (.str "never") && PyData.eqvAll r []) := by simp [PyData.eqv, PyData.eqvAll]
    rw [z, eqv_str]
    cases r <;> simp [PyData.eqvAll]
  rw [e1, befD_of]
  cases d with
  | str h =>
    show (if h = "lot" then _ else if h = "before" then _ else _) = if (h == Str.ofString "lot") = true then _ else ((h == Str.ofString "never") && _ || (h == Str.ofString "before") && _ && _)
    have nb : ¬ (Str.ofString "before" = Str.ofString "never") := by decide +kernel
    by_cases h1 : h = "lot"
    · rw [if_pos h1, if_pos (beq_iff_eq.mpr h1)]
    · rw [if_neg h1, if_neg (fun z => h1 (beq_iff_eq.mp z))]
      by_cases h2 : h = "before"
      · rw [if_pos h2, h2, beq_self_eq_true, show (Str.ofString "before" == Str.ofString "never") = false from beq_eq_false_iff_ne.mpr nb]
        simp
      · rw [if_neg h2, show (h == Str.ofString "before") = false from beq_eq_false_iff_ne.mpr h2]
        simp only [Bool.false_and, Bool.or_false]
        congr 1
  | _ => simp [stD, eqS]
section
variable {P : Program} {w : World} {K : PySem.W.Frag} {mg : Str → Option Value} {base : Heap}
theorem has_p_is_statement (Z : Zs mg) (gN : ∃ c, mg "_NEVER" = some (.ref c) ∧ SqT K (fun _ => none) c [.str "never"]) (A : At K mg "is_statement" s_p_is_statement ["value"]) (h_p_is_lot : Has P w K mg base "is_lot" s_p_is_lot 3 ["value"] (spJ K 4 lotD)) (h_p_is_before : Has P w K mg base "_is_before" s_p_is_before 3 ["value"] (spBef K)) : Has P w K mg base "is_statement" s_p_is_statement 4 ["value"] (spJ K 5 stD) := by
  obtain ⟨f, fd, F, mg1, bd⟩ := A
  obtain ⟨f_p_is_lot, fd_p_is_lot, G_p_is_lot, m_p_is_lot, k_p_is_lot, b_p_is_lot, F_p_is_lot⟩ := h_p_is_lot
  obtain ⟨f_p_is_before, fd_p_is_before, G_p_is_before, m_p_is_before, k_p_is_before, b_p_is_before, F_p_is_before⟩ := h_p_is_before
  obtain ⟨cN, g_NEVER, hN⟩ := gN
  refine ⟨f, fd, ?_, mg1, F.kp, bd, F⟩
  refine F.ok sc_p_is_statement (fun vs H Q E h => ?_) (fun cdv A outer s H vs Q E hr h => ?_)
  · obtain ⟨v, d, rfl, _⟩ := h
    rfl
  · obtain ⟨v, d, rfl, r, lv, q⟩ := h
    have nd := r.nodict
    refine ⟨_, (pss_cons (ps_if (PW.pt (pw_or (pt_not (pt_val (pe_callB call_isi (by rfl) Z.isinstance_ (by decide +kernel) (pa_cons (pv 0) (pa_cons (pe_bltn (v := .ty "tuple") (by rfl) Z.tuple_ (by decide +kernel) rfl) pa_nil))))) (pw_or1 (pt_cmpR op_eq (pe_callB call_len_seq (by rfl) Z.len_ (by decide +kernel) (pa_cons (pv 0) pa_nil)) pe_int (nomark _))))) (pss_one (ps_ret pe_bl)) pss_nil) (pss_cons (ps_if (pt_cmpR (op_eqD hr.units) (pe_ix ix_tup (pv 0) pe_int (fun _ _ => rfl)) pe_str (nomark _)) (pss_one (ps_ret (pe_and (pe_cmpR op_eq (pe_callB call_len_seq (by rfl) Z.len_ (by decide +kernel) (pa_cons (pv 0) pa_nil)) pe_int (nomark _)) (pe_one (pe_call G_p_is_lot (hr.mono (by decide)) (by rfl) m_p_is_lot k_p_is_lot b_p_is_lot .nil pass0 (pa_cons (pe_ix ix_tup (pv 0) pe_int (fun _ _ => rfl)) pa_nil)))))) pss_nil) (pss_one (ps_ret (pe_or (pe_cmpR (op_eqD hr.units) (pv 0) (pe_glob (v := .ref cN) (by rfl) g_NEVER rfl) (nomark _)) (pe_one (pe_call G_p_is_before (hr.mono (by decide)) (by rfl) m_p_is_before k_p_is_before b_p_is_before .nil pass0 (pa_cons (pv 0) pa_nil)))))))), ?_⟩
    refine ⟨_, rfl, v, _, _, _, _, rfl, .ty "tuple", r.ty, kit_ty (kit_tuple d nd), _, rfl, ?_⟩
    cases d with
    | tuple ds =>
      cases r with
      | tup hs ht ra =>
        rename_i a xs
        have hl := ra.len
        have hl2 : ds.length ≤ 60 := lv.1
        refine iteF ?_
        refine ⟨_, rfl, a, xs, rfl, .inr hs, rfl, _, rfl, ?_⟩
        cases ds with
        | nil =>
          rw [hl, show decide (V.int (([] : List PyData).length : Int) = V.int 0) = true from decide_eq_true rfl]
          exact iteT (q H (Same.refl H))
        | cons d r =>
          have hl' : xs.length = r.length + 1 := hl
          refine ite2 (fun z => ?_) (fun _ => ?_)
          · have z : ((xs.length : Nat) : Int) = 0 := V.int.inj (of_decide_eq_true z)
            omega
          obtain ⟨v, hv, rv⟩ := ra.at' (i := 0) (d := d) rfl
          refine ⟨_, rfl, a, xs, 0, v, rfl, rfl, hs, atI_of (by decide) hv, d, .str "lot", Da.dp _ _ rv, .str _, (lv_head lv).shaped (by decide), (lv_of 0 _ (by decide +kernel) : Lv 0 (.str "lot")).shaped (by decide), _, rfl, ?_⟩
          rw [eqv_str]
          rw [stD_eq] at q
          refine ite2 (fun hb => ?_) (fun hb => ?_)
          · rw [if_pos hb] at q
            refine ⟨_, rfl, a, xs, rfl, .inr hs, rfl, _, rfl, ?_⟩
            refine ite2 (fun h2 => ?_) (fun h2 => ?_)
            · have z : ((xs.length : Nat) : Int) = 2 := V.int.inj (of_decide_eq_true h2)
              obtain ⟨x, rfl⟩ : ∃ x, r = [x] := by
                cases r with
                | nil => rw [List.length_nil] at hl'; omega
                | cons x t =>
                  cases t with
                  | nil => exact ⟨x, rfl⟩
                  | cons y t => rw [List.length_cons, List.length_cons] at hl'; omega
              obtain ⟨u, hu, ru⟩ := ra.at' (i := 1) (d := x) rfl
              refine ⟨_, rfl, a, xs, 1, u, rfl, rfl, hs, atI_of (by decide) hu, u, x, rfl, ru, lv_in lv (List.mem_cons_of_mem _ List.mem_cons_self), fun H1 s1 => ?_⟩
              have q1 := q H1 s1
              rw [show (([x] : List PyData).length == 1 && [x].all lotD) = lotD x by simp] at q1
              exact q1
            · have q1 := q H (Same.refl H)
              have l1 : ¬ r.length = 1 := fun z => h2 (decide_eq_true (by rw [hl', z]; rfl))
              rw [show (r.length == 1) = false from beq_eq_false_iff_ne.mpr l1, Bool.false_and] at q1
              exact q1
          · rw [if_neg hb] at q
            have hN2 : SqT K H cN [.str "never"] := same_t (fun b o (z : (none : Option HO) = some o) => by cases z) hN
            refine ⟨_, rfl, .tuple (d :: r), .tuple [.str "never"], .tup hs (DaAll.dp _ _ ra), .tup hN2 (.cons (.str _) .nil), lv.shaped (by decide), (lv_of 1 _ (by decide +kernel) : Lv 1 (.tuple [.str "never"])).shaped (by decide), _, rfl, ?_⟩
            cases he : PyData.eqv (.tuple (d :: r)) (.tuple [.str "never"]) with
            | true =>
              refine iteT ?_
              have q1 := q H (Same.refl H)
              rw [he, Bool.true_or] at q1
              exact q1
            | false =>
              refine iteF ?_
              refine ⟨_, rfl, a, xs, d :: r, rfl, hs, ra, lv, List.cons_ne_nil _ _, fun H1 s1 => ?_⟩
              have q1 := q H1 s1
              rw [he, Bool.false_or] at q1
              exact q1
    | _ => exact iteT (q H (Same.refl H))
end
end Th
namespace Th
open PySem PySem.Spec PyProof.Rows L2
abbrev s_p_law : Stmt := topS 30
theorem sc_p_law : FnScope ["_law_script", "_law_state", "_law_pair", "_law_turn", "_law_pool", "_law_again", "_law_x", "_law_due"] ["_law_script"] (defScope s_p_law) := ⟨rfl, rfl, rfl, by decide +kernel, rfl, by decide +kernel, by decide +kernel⟩
def spLawK (K : PySem.W.Frag) : Sp := fun vs H Q _ => ∃ (a : Addr) (ns : List Int), vs = [.ref a] ∧ SqL K H a (ns.map V.int) ∧ ns.length ≤ 63 ∧ ∀ H', Q (.bl true) H'
/-- the first thing of a tuple -/
def hdD : PyData → PyData
  | .tuple (d :: _) => d
  | _ => .none
theorem rules_pair : ∀ d ∈ rulesD, ∃ x n, d = .tuple [.str x, .int n] := by
  intro d hd
  simp only [rulesD, List.mem_cons, List.not_mem_nil, or_false] at hd
  rcases hd with e | e | e | e | e | e | e | e | e | e | e | e <;> exact ⟨_, _, e⟩
def rulesN : List Str := ["single", "all", "word", "union", "common", "rest", "fact", "apart", "across", "chain", "bar", "self"]
theorem rules_lv : Lv 5 (.tuple (rulesN.map .str)) := lv_of 5 _ (by decide +kernel)
theorem rules_at {i : Nat} {e : PyData} (h : rulesD[i]? = some e) : ∃ x n, e = .tuple [.str x, .int n] ∧ rulesN[i]? = some x := by
  obtain ⟨x, n, rfl⟩ := rules_pair e (List.mem_of_getElem? h)
  refine ⟨x, n, rfl, ?_⟩
  have e1 : rulesD.map hdD = rulesN.map .str := rfl
  have e2 : (rulesD.map hdD)[i]? = some (.str x) := by rw [List.getElem?_map, h]; rfl
  rw [e1] at e2
  obtain ⟨y, hy, e3⟩ := getmap e2
  cases e3
  exact hy
section
variable {P : Program} {w : World} {K : PySem.W.Frag} {mg : Str → Option Value} {base : Heap}
theorem has_p_law (Z : Zs mg) (gR : ∃ c, mg "RULES" = some (.ref c) ∧ Da K (fun _ => none) (.ref c) (.tuple (rulesN.map .str))) (A : At K mg "law" s_p_law ["_law_script"]) (h_l_start : Has P w K mg base "_law_start" s_l_start 1 ["_law_script", "_law_own"] (spStart K)) (h_l_draw : Has P w K mg base "_law_draw" s_l_draw 1 ["_law_state", "_law_many"] (spDraw)) (h_l_names : Has P w K mg base "_law_names" s_l_names 3 ["_law_state", "_law_many"] (spNames K)) (h_l_odd : Has P w K mg base "_law_odd" s_l_odd 3 ["_law_state"] (spOdd K)) (h_l_same : Has P w K mg base "_law_same" s_l_same 6 ["_law_got", "_law_due"] (spSm K 6)) (h_l_is_said : Has P w K mg base "_law_is_said" s_l_is_said 4 ["_law_x"] (spJ K 5 stD)) (h_l_rules : Has P w K mg base "_law_rules" s_l_rules 1 [] (spRules K)) (h_l_said_like : Has P w K mg base "_law_said_like" s_l_said_like 4 ["_law_state", "_law_pool"] (spLike K)) (h_p_is_statement : Has P w K mg base "is_statement" s_p_is_statement 4 ["value"] (spJ K 5 stD)) : Has P w K mg base "law" s_p_law 7 ["_law_script"] (spLawK K) := by
  obtain ⟨f, fd, F, mg1, bd⟩ := A
  obtain ⟨f_l_start, fd_l_start, G_l_start, m_l_start, k_l_start, b_l_start, F_l_start⟩ := h_l_start
  obtain ⟨f_l_draw, fd_l_draw, G_l_draw, m_l_draw, k_l_draw, b_l_draw, F_l_draw⟩ := h_l_draw
  obtain ⟨f_l_names, fd_l_names, G_l_names, m_l_names, k_l_names, b_l_names, F_l_names⟩ := h_l_names
  obtain ⟨f_l_odd, fd_l_odd, G_l_odd, m_l_odd, k_l_odd, b_l_odd, F_l_odd⟩ := h_l_odd
  obtain ⟨f_l_same, fd_l_same, G_l_same, m_l_same, k_l_same, b_l_same, F_l_same⟩ := h_l_same
  obtain ⟨f_l_is_said, fd_l_is_said, G_l_is_said, m_l_is_said, k_l_is_said, b_l_is_said, F_l_is_said⟩ := h_l_is_said
  obtain ⟨f_l_rules, fd_l_rules, G_l_rules, m_l_rules, k_l_rules, b_l_rules, F_l_rules⟩ := h_l_rules
  obtain ⟨f_l_said_like, fd_l_said_like, G_l_said_like, m_l_said_like, k_l_said_like, b_l_said_like, F_l_said_like⟩ := h_l_said_like
  obtain ⟨f_p_is_statement, fd_p_is_statement, G_p_is_statement, m_p_is_statement, k_p_is_statement, b_p_is_statement, F_p_is_statement⟩ := h_p_is_statement
  obtain ⟨cR, g_RULES, hR⟩ := gR
  refine ⟨f, fd, ?_, mg1, F.kp, bd, F⟩
  refine F.ok sc_p_law (fun vs H Q E h => ?_) (fun cdv A outer s H vs Q E hr h => ?_)
  · obtain ⟨a, ns, rfl, _⟩ := h
    rfl
  · obtain ⟨a, ns, rfl, hS, hlen, q⟩ := h
    have kb_st : KBinds K fd_p_is_statement ["value"] ["value"] g1 g1 := kb_of F_p_is_statement g1_rel (fun kV doc pm an cdv ct us ws hl => by
      match us, ws, hl with
      | [], [_], _ => rfl
      | [], [], e => cases e
      | [], _ :: _ :: _, e => cases e
      | _ :: _, [], e => cases e
      | _ :: _, _ :: _, e => cases e)
    refine ⟨_, (pss_cons (ps_set (i := 1) sc_p_law.nd rfl (Or.inl rfl) (pe_call G_l_start (hr.mono (by decide)) (by rfl) m_l_start k_l_start b_l_start .nil pass0 (pa_cons (pv 0) (pa_cons pe_int pa_nil)))) (pss_cons (ps_if (pt_not (pt_val (pe_call G_l_same (hr.mono (by decide)) (by rfl) m_l_same k_l_same b_l_same .nil pass0 (pa_cons (pe_glob (v := .ref cR) (by rfl) g_RULES rfl) (pa_cons (pe_callTy call_tuple_of (by rfl) Z.tuple_ (by decide +kernel) (pa_cons (pe_lc (own := [("_law_pair", 2)]) (g := gName 2) (by rfl) sc_p_law.nd (pi_list (pe_call0 G_l_rules (hr.mono (by decide)) (by rfl) m_l_rules k_l_rules b_l_rules .nil pass0)) (blkOk_by (own := [("_law_pair", 2)]) (N := ["_law_script", "_law_state", "_law_pair", "_law_turn", "_law_pool", "_law_again", "_law_x", "_law_due"]) (sc := defScope s_p_law) (by decide +kernel)) (fun _ _ _ _ _ => pg_name (i := 2) sc_p_law.nd rfl (Or.inl rfl)) (fun _ _ _ _ _ => pts_nil) (fun _ _ _ _ _ => (pe_ix (show IxR _ (rIxT K) from ix_tup) (pv 2) pe_int (fun _ _ => rfl)))) pa_nil)) pa_nil))))) (pss_one (ps_ret pe_bl)) pss_nil) (pss_cons (ps_for PassesOwn.never rfl (pi_range1 (by rfl) Z.range_ (pa_cons pe_int pa_nil)) (pg_name (i := 3) sc_p_law.nd rfl (Or.inl rfl)) (pss_cons (ps_set (i := 4) sc_p_law.nd rfl (Or.inl rfl) (pe_call G_l_names (hr.mono (by decide)) (by rfl) m_l_names k_l_names b_l_names .nil pass0 (pa_cons (pv 1) (pa_cons (pe_op op_add pe_int (pe_call G_l_draw (hr.mono (by decide)) (by rfl) m_l_draw k_l_draw b_l_draw .nil pass0 (pa_cons (pv 1) (pa_cons pe_int pa_nil)))) pa_nil)))) (pss_one (ps_for PassesOwn.never rfl (pi_range1 (by rfl) Z.range_ (pa_cons pe_int pa_nil)) (pg_name (i := 5) sc_p_law.nd rfl (Or.inl rfl)) (pss_one (ps_for PassesOwn.never rfl (pi_list (pe_lst (pa_cons (pe_call G_l_said_like (hr.mono (by decide)) (by rfl) m_l_said_like k_l_said_like b_l_said_like .nil pass0 (pa_cons (pv 1) (pa_cons (pv 4) pa_nil))) (pa_cons (pe_call G_l_odd (hr.mono (by decide)) (by rfl) m_l_odd k_l_odd b_l_odd .nil pass0 (pa_cons (pv 1) pa_nil)) pa_nil)))) (pg_name (i := 6) sc_p_law.nd rfl (Or.inl rfl)) (pss_cons (ps_set (i := 7) sc_p_law.nd rfl (Or.inl rfl) (pe_call G_l_is_said (hr.mono (by decide)) (by rfl) m_l_is_said k_l_is_said b_l_is_said .nil pass0 (pa_cons (pv 6) pa_nil))) (pss_one (ps_if (pt_not (pt_val (pe_call G_l_same (hr.mono (by decide)) (by rfl) m_l_same k_l_same b_l_same .nil pass0 (pa_cons (pe_lst (pa_cons (pe_call G_p_is_statement (hr.mono (by decide)) (by rfl) m_p_is_statement k_p_is_statement b_p_is_statement .nil pass0 (pa_cons (pv 6) pa_nil)) (pa_cons (pe_callK0 G_p_is_statement (hr.mono (by decide)) (by rfl) m_p_is_statement k_p_is_statement kb_st pass0 (pk_cons (pv 6) pk_nil)) pa_nil))) (pa_cons (pe_lst (pa_cons (pv 7) (pa_cons (pv 7) pa_nil))) pa_nil))))) (pss_one (ps_ret pe_bl)) pss_nil))))))))) (pss_one (ps_ret pe_bl))))), ?_⟩
    refine ⟨_, rfl, a, ns, 120331441, rfl, hS, hlen, by decide, by decide, fun H1 D s1 np nl d => ?_⟩
    -- the rules
    refine ⟨D, rfl, d, fun v H2 g2 r2 => ?_⟩
    cases r2 with
    | lst hl ht ra =>
    rename_i lp lxs
    have d2 := g2.st
    refine ⟨lp, rfl, ⟨_, hid_same.seq hl⟩, fun L nL => ?_⟩
    have lx := ra.len
    refine lc_list (K := K) (a := lp) (xs := lxs) (fun i H3 => Go D H2 H3 ∧ H3 L = some (.lst ((rulesN.take i).map V.str))) ⟨(Go.refl d2).new nL, upd_same⟩ (fun i H3 _ z => hid_same.seq (z.1.sm.seq hl)) ?_ ?_
    · rintro i y H3 hi ⟨g3, ew⟩
      obtain ⟨e, he, re⟩ := ra.at hi
      obtain ⟨x, n, rfl, hx⟩ := rules_at he
      have re := re.to g3.sm
      cases re with
      | tup h1 h2 h3 =>
        rename_i tp txs
        obtain ⟨v0, hv0, rv0⟩ := h3.at' (i := 0) (d := .str x) rfl
        cases rv0
        have hil := lt_of_get hx
        have l12 : rulesN.length = 12 := rfl
        refine ⟨rfl, _, rfl, tp, txs, 0, _, rfl, rfl, same_t hid_same h1, atI_of (by decide) hv0, _, ew, slineL (by rw [List.length_map, List.length_take]; omega), ?_⟩
        exact ⟨g3.mut d2 nL, by rw [upd_same, take_succ_map hx]⟩
    rintro H3 ⟨g3, ew⟩
    have l12 : lxs.length = 12 := lx
    rw [l12, show rulesN.take 12 = rulesN from rfl] at ew
    have d3 := g3.st
    refine ⟨L, _, rfl, .inl ⟨.inl (.inl ew), fun t nt => ?_⟩⟩
    have d4 := d3.new (o := .tup (rulesN.map V.str)) nt
    refine ⟨_, _, _, rfl, hR.to (fun b o (z : (none : Option HO) = some o) => by cases z), Da.newT upd_same (DaAll.strs rulesN), rules_lv, fun H4 s4 => ⟨_, rfl, iteF ?_⟩⟩
    have g4 := Go.of d4 s4
    have d5 := g4.st
    clear g4 d4 ew g3 d3
    refine ⟨3, rfl, by decide, by decide, for_range (lo := 0) (n := 3) (fun i σ H5 => ∃ y3 y4 y5 y6 y7 : Option V, σ = [some (.ref a), some (.ref D.p), none, y3, y4, y5, y6, y7] ∧ Drw D H5) ⟨none, none, none, none, none, rfl, d5⟩ ?_ ?_⟩
    · rintro i σ H5 hi ⟨y3, y4, y5, y6, y7, rfl, d6⟩
      refine ⟨_, rfl, _, rfl, D, 12, rfl, d6, by decide, by decide, fun r H6 r0 r1 g6 => ⟨_, _, rfl, rfl, D, _, rfl, g6.st, by omega, by omega, fun PL xs H7 nms eln nPL ePL g7 => ?_⟩⟩
      have pPL := g6.st.ne_new nPL
      have lxs12 : xs.length ≤ 12 := by omega
      refine ⟨12, rfl, by decide, by decide, for_range (lo := 0) (n := 12) (fun j σ H8 => ∃ y5 y6 y7 : Option V, σ = [some (.ref a), some (.ref D.p), none, some (.int (0 + (i : Int))), some (.ref PL), y5, y6, y7] ∧ Drw D H8 ∧ H8 PL = some (.lst (xs.map V.str))) ⟨y5, y6, y7, rfl, g7.st, ePL⟩ ?_ ?_⟩
      · rintro j σ H8 hj ⟨y5, y6, y7, rfl, d8, ePL8⟩
        refine ⟨_, rfl, _, rfl, D, PL, xs, rfl, d8, sqh pPL ePL8, by omega, lxs12, nms.2, fun v1 d1 H9 r1 lv1 g9 => ?_⟩
        refine ⟨_, rfl, D, rfl, g9.st, fun v2 d2' H10 hd2 g10 r2 => ?_⟩
        have r1 := r1.to g10.sm
        have lv2 : Lv 5 d2' := ((odds_lv d2' hd2).up.up).up
        refine ⟨by show 2 ≤ sizeLine; decide, fun W nW => ?_⟩
        have gW := Go.of g10.st (same_new (o := .lst [v1, v2]) nW)
        have r1 := r1.to gW.sm
        have r2 := r2.to gW.sm
        have eW : (upd H10 W (.lst [v1, v2])) W = some (.lst [v1, v2]) := upd_same
        have pW := g10.st.ne_new nW
        have dW := gW.st
        have ePL11 := gW.old pPL (g10.old pPL (g9.old pPL ePL8))
        generalize upd H10 W (.lst [v1, v2]) = HW at gW r1 r2 eW dW ePL11 ⊢
        have items : ∀ k v, [v1, v2][k]? = some v → ∃ d, Da K (hid D.p HW) v d ∧ Lv 5 d := fun k v hk => by
          rcases List.mem_cons.mp (List.mem_of_getElem? hk) with e | m
          · rw [e]; exact ⟨d1, r1, lv1⟩
          · rw [List.mem_singleton.mp m]; exact ⟨d2', r2, lv2⟩
        refine ⟨W, rfl, ⟨_, .inl (.inl eW)⟩, for_list (K := K) (a := W) (xs := [v1, v2]) (fun k σ H11 => ∃ y6 y7 : Option V, σ = [some (.ref a), some (.ref D.p), none, some (.int (0 + (i : Int))), some (.ref PL), some (.int (0 + (j : Int))), y6, y7] ∧ Go D HW H11) ⟨y6, y7, rfl, .refl dW⟩ (fun k σ H11 _ ⟨_, _, _, g⟩ => .inl (.inl (g.old pW eW))) ?_ ?_⟩
        · rintro k v σ H11 hk ⟨y6, y7, rfl, g11⟩
          obtain ⟨d, rd, lv⟩ := items k v hk
          have rd := (rd.to g11.sm).to hid_same
          refine ⟨_, rfl, v, d, rfl, rd, lv, fun H12 s12 => ?_⟩
          have rd := rd.to s12
          refine ⟨_, rfl, v, d, rfl, rd, lv, fun H13 s13 => ?_⟩
          have rd := rd.to s13
          refine ⟨_, rfl, v, d, rfl, rd, lv, fun H14 s14 => ?_⟩
          refine ⟨by show 2 ≤ sizeLine; decide, fun l1 n1 => ?_⟩
          refine ⟨_, rfl, _, rfl, by show 2 ≤ sizeLine; decide, fun l2 n2 => ?_⟩
          refine ⟨.ref l1, .ref l2, .list [.bool (stD d), .bool (stD d)], rfl, Da.newL (kp upd_same n2) (.cons (.bl _) (.cons (.bl _) .nil)), Da.newL upd_same (.cons (.bl _) (.cons (.bl _) .nil)), ⟨by show 2 ≤ 60; decide, fun x hx => ?_⟩, fun H15 s15 => ⟨_, rfl, iteF ?_⟩⟩
          · rcases List.mem_cons.mp hx with e | m
            · rw [e]; trivial
            · rw [List.mem_singleton.mp m]; trivial
          · exact ⟨_, _, rfl, g11.trans (Go.of g11.st (((((s12.trans s13).trans s14).trans (same_new n1)).trans (same_new n2)).trans s15))⟩
        · rintro σ H11 ⟨y6, y7, rfl, g11⟩
          exact ⟨_, _, _, rfl, g11.st, g11.old pPL ePL11⟩
      · rintro σ H8 ⟨y5, y6, y7, rfl, d8, ePL8⟩
        exact ⟨_, _, _, _, _, rfl, d8⟩
    · rintro σ H5 ⟨y3, y4, y5, y6, y7, rfl, d6⟩
      exact q _
end
end Th
namespace Th
open PySem PySem.Spec PyProof.Rows L2
theorem at_mk {K : PySem.W.Frag} {h : Heap} {mg : Str → Option Value} {x : Str} {st : Stmt} {ps : List Str} {f : Addr} {oc : Value} {od an : Option Addr} {osl : Array (Option Value)} {kV doc pm cdv ct : Value} (X : K.In h) (G : h.Ns mainGlobals mg)
    (a : PySem.W.nsIn K mainGlobals x = some (some (.ref f))) (l : K.lookup f = some ⟨oc, od, .func (PySem.W.fnOf x x (defArgs st) (defBody st) (defScope st) .none kV doc pm an cdv ct), osl⟩) (c : PySem.W.codeIn K cdv x = true) (k : PySem.W.keepIn K (.ref f) = true)
    (hb : ∀ (kV doc pm : Value) (an : Option Addr) (cdv ct : Value) (us : List Value), us.length = ps.length → bindArgs (PySem.W.fnOf x x (defArgs st) (defBody st) (defScope st) .none kV doc pm an cdv ct) ⟨us, []⟩ = pure (ps.zip us)) : At K mg x st ps :=
  ⟨f, _, fun_mk (st := st) l c k, PySem.W.mg_of X G a, (fun_mk (st := st) l c k).binds (ps := ps) hb⟩
theorem has_fn {P : Program} {w : World} {K : PySem.W.Frag} {mg : Str → Option Value} {base : Heap} {x : Str} {st : Stmt} {k : Nat} {ps : List Str} {sp : Sp} {f : Addr} {oc : Value} {od : Option Addr} {fd : FuncData} {osl : Array (Option Value)}
    (h : Has P w K mg base x st k ps sp) (m : mg x = some (.ref f)) (l : K.lookup f = some ⟨oc, od, .func fd, osl⟩) : FnOk P w K mg base CX0 k f fd ps sp := by
  obtain ⟨f', fd', G, m', _, _, F⟩ := h
  rw [m] at m'
  cases m'
  obtain ⟨oc', od', kV, doc, pm, an, cdv, ct, osl', rfl, lk, _⟩ := F.ex
  rw [l] at lk
  cases lk
  exact G
theorem all_mk {l : PySem.W.OpenLaw} {w : World} {K : PySem.W.Frag} {h : Heap} {mg : Str → Option Value} {fa : Addr} (X : K.In h) (G : h.Ns mainGlobals mg)
    {f0 : Addr} {od0 an0 : Option Addr} {sl0 : Array (Option Value)} {oc0 kV0 dc0 pm0 cd0 ct0 : Value}
    {f1 : Addr} {od1 an1 : Option Addr} {sl1 : Array (Option Value)} {oc1 kV1 dc1 pm1 cd1 ct1 : Value}
    {f2 : Addr} {od2 an2 : Option Addr} {sl2 : Array (Option Value)} {oc2 kV2 dc2 pm2 cd2 ct2 : Value}
    {f3 : Addr} {od3 an3 : Option Addr} {sl3 : Array (Option Value)} {oc3 kV3 dc3 pm3 cd3 ct3 : Value}
    {f4 : Addr} {od4 an4 : Option Addr} {sl4 : Array (Option Value)} {oc4 kV4 dc4 pm4 cd4 ct4 : Value}
    {f5 : Addr} {od5 an5 : Option Addr} {sl5 : Array (Option Value)} {oc5 kV5 dc5 pm5 cd5 ct5 : Value}
    {f6 : Addr} {od6 an6 : Option Addr} {sl6 : Array (Option Value)} {oc6 kV6 dc6 pm6 cd6 ct6 : Value}
    {f7 : Addr} {od7 an7 : Option Addr} {sl7 : Array (Option Value)} {oc7 kV7 dc7 pm7 cd7 ct7 : Value}
    {f8 : Addr} {od8 an8 : Option Addr} {sl8 : Array (Option Value)} {oc8 kV8 dc8 pm8 cd8 ct8 : Value}
    {f9 : Addr} {od9 an9 : Option Addr} {sl9 : Array (Option Value)} {oc9 kV9 dc9 pm9 cd9 ct9 : Value}
    {f10 : Addr} {od10 an10 : Option Addr} {sl10 : Array (Option Value)} {oc10 kV10 dc10 pm10 cd10 ct10 : Value}
    {f11 : Addr} {od11 an11 : Option Addr} {sl11 : Array (Option Value)} {oc11 kV11 dc11 pm11 cd11 ct11 : Value}
    {f12 : Addr} {od12 an12 : Option Addr} {sl12 : Array (Option Value)} {oc12 kV12 dc12 pm12 cd12 ct12 : Value}
    {f13 : Addr} {od13 an13 : Option Addr} {sl13 : Array (Option Value)} {oc13 kV13 dc13 pm13 cd13 ct13 : Value}
    {f14 : Addr} {od14 an14 : Option Addr} {sl14 : Array (Option Value)} {oc14 kV14 dc14 pm14 cd14 ct14 : Value}
    {f15 : Addr} {od15 an15 : Option Addr} {sl15 : Array (Option Value)} {oc15 kV15 dc15 pm15 cd15 ct15 : Value}
    {f16 : Addr} {od16 an16 : Option Addr} {sl16 : Array (Option Value)} {oc16 kV16 dc16 pm16 cd16 ct16 : Value}
    {f17 : Addr} {od17 an17 : Option Addr} {sl17 : Array (Option Value)} {oc17 kV17 dc17 pm17 cd17 ct17 : Value}
    {f18 : Addr} {od18 an18 : Option Addr} {sl18 : Array (Option Value)} {oc18 kV18 dc18 pm18 cd18 ct18 : Value}
    {f19 : Addr} {od19 an19 : Option Addr} {sl19 : Array (Option Value)} {oc19 kV19 dc19 pm19 cd19 ct19 : Value}
    {f20 : Addr} {od20 an20 : Option Addr} {sl20 : Array (Option Value)} {oc20 kV20 dc20 pm20 cd20 ct20 : Value}
    {f21 : Addr} {od21 an21 : Option Addr} {sl21 : Array (Option Value)} {oc21 kV21 dc21 pm21 cd21 ct21 : Value}
    {f22 : Addr} {od22 an22 : Option Addr} {sl22 : Array (Option Value)} {oc22 kV22 dc22 pm22 cd22 ct22 : Value}
    {tL : Tok}
    {tM : Tok}
    {cN : Addr} {dN : Option Addr} {iN : List Value} {nN : Nat} {sN : Array (Option Value)}
    {cR : Addr} {dR : Option Addr} {iR : List Value} {nR : Nat} {sR : Array (Option Value)}
    (hfa : mg "law" = some (.ref fa))
    (a0 : PySem.W.nsIn K mainGlobals "is_name" = some (some (.ref f0))) (l0 : K.lookup f0 = some ⟨oc0, od0, .func (PySem.W.fnOf "is_name" "is_name" (defArgs s_p_is_name) (defBody s_p_is_name) (defScope s_p_is_name) .none kV0 dc0 pm0 an0 cd0 ct0), sl0⟩) (c0 : PySem.W.codeIn K cd0 "is_name" = true) (k0 : PySem.W.keepIn K (.ref f0) = true)
    (a1 : PySem.W.nsIn K mainGlobals "are_names" = some (some (.ref f1))) (l1 : K.lookup f1 = some ⟨oc1, od1, .func (PySem.W.fnOf "are_names" "are_names" (defArgs s_p_are_names) (defBody s_p_are_names) (defScope s_p_are_names) .none kV1 dc1 pm1 an1 cd1 ct1), sl1⟩) (c1 : PySem.W.codeIn K cd1 "are_names" = true) (k1 : PySem.W.keepIn K (.ref f1) = true)
    (a2 : PySem.W.nsIn K mainGlobals "is_lot" = some (some (.ref f2))) (l2 : K.lookup f2 = some ⟨oc2, od2, .func (PySem.W.fnOf "is_lot" "is_lot" (defArgs s_p_is_lot) (defBody s_p_is_lot) (defScope s_p_is_lot) .none kV2 dc2 pm2 an2 cd2 ct2), sl2⟩) (c2 : PySem.W.codeIn K cd2 "is_lot" = true) (k2 : PySem.W.keepIn K (.ref f2) = true)
    (a3 : PySem.W.nsIn K mainGlobals "is_statement" = some (some (.ref f3))) (l3 : K.lookup f3 = some ⟨oc3, od3, .func (PySem.W.fnOf "is_statement" "is_statement" (defArgs s_p_is_statement) (defBody s_p_is_statement) (defScope s_p_is_statement) .none kV3 dc3 pm3 an3 cd3 ct3), sl3⟩) (c3 : PySem.W.codeIn K cd3 "is_statement" = true) (k3 : PySem.W.keepIn K (.ref f3) = true)
    (a4 : PySem.W.nsIn K mainGlobals "_is_before" = some (some (.ref f4))) (l4 : K.lookup f4 = some ⟨oc4, od4, .func (PySem.W.fnOf "_is_before" "_is_before" (defArgs s_p_is_before) (defBody s_p_is_before) (defScope s_p_is_before) .none kV4 dc4 pm4 an4 cd4 ct4), sl4⟩) (c4 : PySem.W.codeIn K cd4 "_is_before" = true) (k4 : PySem.W.keepIn K (.ref f4) = true)
    (a5 : PySem.W.nsIn K mainGlobals "_law_start" = some (some (.ref f5))) (l5 : K.lookup f5 = some ⟨oc5, od5, .func (PySem.W.fnOf "_law_start" "_law_start" (defArgs s_l_start) (defBody s_l_start) (defScope s_l_start) .none kV5 dc5 pm5 an5 cd5 ct5), sl5⟩) (c5 : PySem.W.codeIn K cd5 "_law_start" = true) (k5 : PySem.W.keepIn K (.ref f5) = true)
    (a6 : PySem.W.nsIn K mainGlobals "_law_draw" = some (some (.ref f6))) (l6 : K.lookup f6 = some ⟨oc6, od6, .func (PySem.W.fnOf "_law_draw" "_law_draw" (defArgs s_l_draw) (defBody s_l_draw) (defScope s_l_draw) .none kV6 dc6 pm6 an6 cd6 ct6), sl6⟩) (c6 : PySem.W.codeIn K cd6 "_law_draw" = true) (k6 : PySem.W.keepIn K (.ref f6) = true)
    (a7 : PySem.W.nsIn K mainGlobals "_law_pick" = some (some (.ref f7))) (l7 : K.lookup f7 = some ⟨oc7, od7, .func (PySem.W.fnOf "_law_pick" "_law_pick" (defArgs s_l_pick) (defBody s_l_pick) (defScope s_l_pick) .none kV7 dc7 pm7 an7 cd7 ct7), sl7⟩) (c7 : PySem.W.codeIn K cd7 "_law_pick" = true) (k7 : PySem.W.keepIn K (.ref f7) = true)
    (a8 : PySem.W.nsIn K mainGlobals "_law_shuffle" = some (some (.ref f8))) (l8 : K.lookup f8 = some ⟨oc8, od8, .func (PySem.W.fnOf "_law_shuffle" "_law_shuffle" (defArgs s_l_shuffle) (defBody s_l_shuffle) (defScope s_l_shuffle) .none kV8 dc8 pm8 an8 cd8 ct8), sl8⟩) (c8 : PySem.W.codeIn K cd8 "_law_shuffle" = true) (k8 : PySem.W.keepIn K (.ref f8) = true)
    (a9 : PySem.W.nsIn K mainGlobals "_law_letters" = some (some (.ref f9))) (l9 : K.lookup f9 = some ⟨oc9, od9, .func (PySem.W.fnOf "_law_letters" "_law_letters" (defArgs s_l_letters) (defBody s_l_letters) (defScope s_l_letters) .none kV9 dc9 pm9 an9 cd9 ct9), sl9⟩) (c9 : PySem.W.codeIn K cd9 "_law_letters" = true) (k9 : PySem.W.keepIn K (.ref f9) = true)
    (a10 : PySem.W.nsIn K mainGlobals "_law_word" = some (some (.ref f10))) (l10 : K.lookup f10 = some ⟨oc10, od10, .func (PySem.W.fnOf "_law_word" "_law_word" (defArgs s_l_word) (defBody s_l_word) (defScope s_l_word) .none kV10 dc10 pm10 an10 cd10 ct10), sl10⟩) (c10 : PySem.W.codeIn K cd10 "_law_word" = true) (k10 : PySem.W.keepIn K (.ref f10) = true)
    (a11 : PySem.W.nsIn K mainGlobals "_law_names" = some (some (.ref f11))) (l11 : K.lookup f11 = some ⟨oc11, od11, .func (PySem.W.fnOf "_law_names" "_law_names" (defArgs s_l_names) (defBody s_l_names) (defScope s_l_names) .none kV11 dc11 pm11 an11 cd11 ct11), sl11⟩) (c11 : PySem.W.codeIn K cd11 "_law_names" = true) (k11 : PySem.W.keepIn K (.ref f11) = true)
    (a12 : PySem.W.nsIn K mainGlobals "_law_odd" = some (some (.ref f12))) (l12 : K.lookup f12 = some ⟨oc12, od12, .func (PySem.W.fnOf "_law_odd" "_law_odd" (defArgs s_l_odd) (defBody s_l_odd) (defScope s_l_odd) .none kV12 dc12 pm12 an12 cd12 ct12), sl12⟩) (c12 : PySem.W.codeIn K cd12 "_law_odd" = true) (k12 : PySem.W.keepIn K (.ref f12) = true)
    (a13 : PySem.W.nsIn K mainGlobals "_law_subset" = some (some (.ref f13))) (l13 : K.lookup f13 = some ⟨oc13, od13, .func (PySem.W.fnOf "_law_subset" "_law_subset" (defArgs s_l_subset) (defBody s_l_subset) (defScope s_l_subset) .none kV13 dc13 pm13 an13 cd13 ct13), sl13⟩) (c13 : PySem.W.codeIn K cd13 "_law_subset" = true) (k13 : PySem.W.keepIn K (.ref f13) = true)
    (a14 : PySem.W.nsIn K mainGlobals "_law_same" = some (some (.ref f14))) (l14 : K.lookup f14 = some ⟨oc14, od14, .func (PySem.W.fnOf "_law_same" "_law_same" (defArgs s_l_same) (defBody s_l_same) (defScope s_l_same) .none kV14 dc14 pm14 an14 cd14 ct14), sl14⟩) (c14 : PySem.W.codeIn K cd14 "_law_same" = true) (k14 : PySem.W.keepIn K (.ref f14) = true)
    (a15 : PySem.W.nsIn K mainGlobals "_law_is_name" = some (some (.ref f15))) (l15 : K.lookup f15 = some ⟨oc15, od15, .func (PySem.W.fnOf "_law_is_name" "_law_is_name" (defArgs s_l_is_name) (defBody s_l_is_name) (defScope s_l_is_name) .none kV15 dc15 pm15 an15 cd15 ct15), sl15⟩) (c15 : PySem.W.codeIn K cd15 "_law_is_name" = true) (k15 : PySem.W.keepIn K (.ref f15) = true)
    (a16 : PySem.W.nsIn K mainGlobals "_law_rising" = some (some (.ref f16))) (l16 : K.lookup f16 = some ⟨oc16, od16, .func (PySem.W.fnOf "_law_rising" "_law_rising" (defArgs s_l_rising) (defBody s_l_rising) (defScope s_l_rising) .none kV16 dc16 pm16 an16 cd16 ct16), sl16⟩) (c16 : PySem.W.codeIn K cd16 "_law_rising" = true) (k16 : PySem.W.keepIn K (.ref f16) = true)
    (a17 : PySem.W.nsIn K mainGlobals "_law_is_lot" = some (some (.ref f17))) (l17 : K.lookup f17 = some ⟨oc17, od17, .func (PySem.W.fnOf "_law_is_lot" "_law_is_lot" (defArgs s_l_is_lot) (defBody s_l_is_lot) (defScope s_l_is_lot) .none kV17 dc17 pm17 an17 cd17 ct17), sl17⟩) (c17 : PySem.W.codeIn K cd17 "_law_is_lot" = true) (k17 : PySem.W.keepIn K (.ref f17) = true)
    (a18 : PySem.W.nsIn K mainGlobals "_law_is_said" = some (some (.ref f18))) (l18 : K.lookup f18 = some ⟨oc18, od18, .func (PySem.W.fnOf "_law_is_said" "_law_is_said" (defArgs s_l_is_said) (defBody s_l_is_said) (defScope s_l_is_said) .none kV18 dc18 pm18 an18 cd18 ct18), sl18⟩) (c18 : PySem.W.codeIn K cd18 "_law_is_said" = true) (k18 : PySem.W.keepIn K (.ref f18) = true)
    (a19 : PySem.W.nsIn K mainGlobals "_law_fact" = some (some (.ref f19))) (l19 : K.lookup f19 = some ⟨oc19, od19, .func (PySem.W.fnOf "_law_fact" "_law_fact" (defArgs s_l_fact) (defBody s_l_fact) (defScope s_l_fact) .none kV19 dc19 pm19 an19 cd19 ct19), sl19⟩) (c19 : PySem.W.codeIn K cd19 "_law_fact" = true) (k19 : PySem.W.keepIn K (.ref f19) = true)
    (a20 : PySem.W.nsIn K mainGlobals "_law_rules" = some (some (.ref f20))) (l20 : K.lookup f20 = some ⟨oc20, od20, .func (PySem.W.fnOf "_law_rules" "_law_rules" (defArgs s_l_rules) (defBody s_l_rules) (defScope s_l_rules) .none kV20 dc20 pm20 an20 cd20 ct20), sl20⟩) (c20 : PySem.W.codeIn K cd20 "_law_rules" = true) (k20 : PySem.W.keepIn K (.ref f20) = true)
    (a21 : PySem.W.nsIn K mainGlobals "_law_said_like" = some (some (.ref f21))) (l21 : K.lookup f21 = some ⟨oc21, od21, .func (PySem.W.fnOf "_law_said_like" "_law_said_like" (defArgs s_l_said_like) (defBody s_l_said_like) (defScope s_l_said_like) .none kV21 dc21 pm21 an21 cd21 ct21), sl21⟩) (c21 : PySem.W.codeIn K cd21 "_law_said_like" = true) (k21 : PySem.W.keepIn K (.ref f21) = true)
    (a22 : PySem.W.nsIn K mainGlobals "law" = some (some (.ref f22))) (l22 : K.lookup f22 = some ⟨oc22, od22, .func (PySem.W.fnOf "law" "law" (defArgs s_p_law) (defBody s_p_law) (defScope s_p_law) .none kV22 dc22 pm22 an22 cd22 ct22), sl22⟩) (c22 : PySem.W.codeIn K cd22 "law" = true) (k22 : PySem.W.keepIn K (.ref f22) = true)
    (z_len : PySem.W.nsIn K mainGlobals "len" = some none)
    (z_range : PySem.W.nsIn K mainGlobals "range" = some none)
    (z_int : PySem.W.nsIn K mainGlobals "int" = some none)
    (z_abs : PySem.W.nsIn K mainGlobals "abs" = some none)
    (z_isinstance : PySem.W.nsIn K mainGlobals "isinstance" = some none)
    (z_all : PySem.W.nsIn K mainGlobals "all" = some none)
    (z_any : PySem.W.nsIn K mainGlobals "any" = some none)
    (z_sorted : PySem.W.nsIn K mainGlobals "sorted" = some none)
    (z_set : PySem.W.nsIn K mainGlobals "set" = some none)
    (z_list : PySem.W.nsIn K mainGlobals "list" = some none)
    (z_tuple : PySem.W.nsIn K mainGlobals "tuple" = some none)
    (z_str : PySem.W.nsIn K mainGlobals "str" = some none)
    (z_bool : PySem.W.nsIn K mainGlobals "bool" = some none)
    (z_enumerate : PySem.W.nsIn K mainGlobals "enumerate" = some none)
    (z_min : PySem.W.nsIn K mainGlobals "min" = some none)
    (z_max : PySem.W.nsIn K mainGlobals "max" = some none)
    (xL : PySem.W.nsIn K mainGlobals "_LETTERS" = some (some (.str "abcdefghijklmnopqrstuvwxyz" tL)))
    (xM : PySem.W.nsIn K mainGlobals "_MOST_LETTERS" = some (some (.int 6 tM)))
    (xN : PySem.W.nsIn K mainGlobals "_NEVER" = some (some (.ref cN))) (yN : K.lookup cN = some ⟨.type "tuple", dN, .seq iN.toArray nN, sN⟩) (vN : Vals [V.str "never"] iN)
    (xR : PySem.W.nsIn K mainGlobals "RULES" = some (some (.ref cR))) (yR : K.lookup cR = some ⟨.type "tuple", dR, .seq iR.toArray nR, sR⟩) (vR : Vals (rulesN.map V.str) iR) :
    ∃ fd : FuncData, (∀ (s : Shared) (v : Value), BindsTo s fd ⟨[v], []⟩ [("_law_script", v)]) ∧ ∀ base : Heap, K.In base → base.Ns mainGlobals mg → FnOk l.prog w K mg base CX0 7 fa fd ["_law_script"] (spLawK K) := by
  have e := hfa.symm.trans (PySem.W.mg_of X G a22)
  cases e
  have Z : Zs mg := ⟨PySem.W.mg_none_of X G z_len, PySem.W.mg_none_of X G z_range, PySem.W.mg_none_of X G z_int, PySem.W.mg_none_of X G z_abs, PySem.W.mg_none_of X G z_isinstance, PySem.W.mg_none_of X G z_all, PySem.W.mg_none_of X G z_any, PySem.W.mg_none_of X G z_sorted, PySem.W.mg_none_of X G z_set, PySem.W.mg_none_of X G z_list, PySem.W.mg_none_of X G z_tuple, PySem.W.mg_none_of X G z_str, PySem.W.mg_none_of X G z_bool, PySem.W.mg_none_of X G z_enumerate, PySem.W.mg_none_of X G z_min, PySem.W.mg_none_of X G z_max⟩
  have A_p_is_name : At K mg "is_name" s_p_is_name ["value"] := at_mk X G a0 l0 c0 k0 fun _ _ _ _ _ _ us hl => match us, hl with | [_], _ => rfl
  have A_p_are_names : At K mg "are_names" s_p_are_names ["values"] := at_mk X G a1 l1 c1 k1 fun _ _ _ _ _ _ us hl => match us, hl with | [_], _ => rfl
  have A_p_is_lot : At K mg "is_lot" s_p_is_lot ["value"] := at_mk X G a2 l2 c2 k2 fun _ _ _ _ _ _ us hl => match us, hl with | [_], _ => rfl
  have A_p_is_statement : At K mg "is_statement" s_p_is_statement ["value"] := at_mk X G a3 l3 c3 k3 fun _ _ _ _ _ _ us hl => match us, hl with | [_], _ => rfl
  have A_p_is_before : At K mg "_is_before" s_p_is_before ["value"] := at_mk X G a4 l4 c4 k4 fun _ _ _ _ _ _ us hl => match us, hl with | [_], _ => rfl
  have A_l_start : At K mg "_law_start" s_l_start ["_law_script", "_law_own"] := at_mk X G a5 l5 c5 k5 fun _ _ _ _ _ _ us hl => match us, hl with | [_, _], _ => rfl
  have A_l_draw : At K mg "_law_draw" s_l_draw ["_law_state", "_law_many"] := at_mk X G a6 l6 c6 k6 fun _ _ _ _ _ _ us hl => match us, hl with | [_, _], _ => rfl
  have A_l_pick : At K mg "_law_pick" s_l_pick ["_law_state", "_law_pool"] := at_mk X G a7 l7 c7 k7 fun _ _ _ _ _ _ us hl => match us, hl with | [_, _], _ => rfl
  have A_l_shuffle : At K mg "_law_shuffle" s_l_shuffle ["_law_state", "_law_pool"] := at_mk X G a8 l8 c8 k8 fun _ _ _ _ _ _ us hl => match us, hl with | [_, _], _ => rfl
  have A_l_letters : At K mg "_law_letters" s_l_letters [] := at_mk X G a9 l9 c9 k9 fun _ _ _ _ _ _ us hl => match us, hl with | [], _ => rfl
  have A_l_word : At K mg "_law_word" s_l_word ["_law_state", "_law_longest"] := at_mk X G a10 l10 c10 k10 fun _ _ _ _ _ _ us hl => match us, hl with | [_, _], _ => rfl
  have A_l_names : At K mg "_law_names" s_l_names ["_law_state", "_law_many"] := at_mk X G a11 l11 c11 k11 fun _ _ _ _ _ _ us hl => match us, hl with | [_, _], _ => rfl
  have A_l_odd : At K mg "_law_odd" s_l_odd ["_law_state"] := at_mk X G a12 l12 c12 k12 fun _ _ _ _ _ _ us hl => match us, hl with | [_], _ => rfl
  have A_l_subset : At K mg "_law_subset" s_l_subset ["_law_state", "_law_pool"] := at_mk X G a13 l13 c13 k13 fun _ _ _ _ _ _ us hl => match us, hl with | [_, _], _ => rfl
  have A_l_same : At K mg "_law_same" s_l_same ["_law_got", "_law_due"] := at_mk X G a14 l14 c14 k14 fun _ _ _ _ _ _ us hl => match us, hl with | [_, _], _ => rfl
  have A_l_is_name : At K mg "_law_is_name" s_l_is_name ["_law_x"] := at_mk X G a15 l15 c15 k15 fun _ _ _ _ _ _ us hl => match us, hl with | [_], _ => rfl
  have A_l_rising : At K mg "_law_rising" s_l_rising ["_law_some"] := at_mk X G a16 l16 c16 k16 fun _ _ _ _ _ _ us hl => match us, hl with | [_], _ => rfl
  have A_l_is_lot : At K mg "_law_is_lot" s_l_is_lot ["_law_x"] := at_mk X G a17 l17 c17 k17 fun _ _ _ _ _ _ us hl => match us, hl with | [_], _ => rfl
  have A_l_is_said : At K mg "_law_is_said" s_l_is_said ["_law_x"] := at_mk X G a18 l18 c18 k18 fun _ _ _ _ _ _ us hl => match us, hl with | [_], _ => rfl
  have A_l_fact : At K mg "_law_fact" s_l_fact ["_law_state", "_law_pool"] := at_mk X G a19 l19 c19 k19 fun _ _ _ _ _ _ us hl => match us, hl with | [_, _], _ => rfl
  have A_l_rules : At K mg "_law_rules" s_l_rules [] := at_mk X G a20 l20 c20 k20 fun _ _ _ _ _ _ us hl => match us, hl with | [], _ => rfl
  have A_l_said_like : At K mg "_law_said_like" s_l_said_like ["_law_state", "_law_pool"] := at_mk X G a21 l21 c21 k21 fun _ _ _ _ _ _ us hl => match us, hl with | [_, _], _ => rfl
  have A_p_law : At K mg "law" s_p_law ["_law_script"] := at_mk X G a22 l22 c22 k22 fun _ _ _ _ _ _ us hl => match us, hl with | [_], _ => rfl
  have gL : ∃ t, mg "_LETTERS" = some (.str abc t) := ⟨_, PySem.W.mg_of X G xL⟩
  have gM : ∃ t, mg "_MOST_LETTERS" = some (.int 6 t) := ⟨_, PySem.W.mg_of X G xM⟩
  have gN : ∃ c, mg "_NEVER" = some (.ref c) ∧ SqT K (fun _ => none) c [.str "never"] := ⟨cN, PySem.W.mg_of X G xN, .inr ⟨_, _, nN, yN, rfl, rfl, by rw [List.size_toArray, ← vN.length]; decide, by simpa using vN⟩⟩
  have gR : ∃ c, mg "RULES" = some (.ref c) ∧ Da K (fun _ => none) (.ref c) (.tuple (rulesN.map .str)) := ⟨cR, PySem.W.mg_of X G xR, .tup (.inr ⟨_, _, nR, yR, rfl, rfl, by rw [List.size_toArray, ← vR.length]; decide, by simpa using vR⟩) (.kTuple yR rfl) (DaAll.strs rulesN)⟩
  refine ⟨PySem.W.fnOf "law" "law" (defArgs s_p_law) (defBody s_p_law) (defScope s_p_law) .none kV22 dc22 pm22 an22 cd22 ct22, fun s v => .of_eq rfl, fun base _ _ => ?_⟩
  have H_l_start := has_l_start (P := l.prog) (w := w) (base := base) Z A_l_start
  have H_l_draw := has_l_draw (P := l.prog) (w := w) (base := base) Z A_l_draw
  have H_l_pick := has_l_pick (P := l.prog) (w := w) (base := base) Z A_l_pick (H_l_draw)
  have H_l_letters := has_l_letters (P := l.prog) (w := w) (base := base) Z A_l_letters
  have H_l_word := has_l_word (P := l.prog) (w := w) (base := base) Z A_l_word (H_l_draw) (H_l_letters)
  have H_l_shuffle := has_l_shuffle (P := l.prog) (w := w) (base := base) Z A_l_shuffle (H_l_draw)
  have H_l_names := has_l_names (P := l.prog) (w := w) (base := base) Z A_l_names (H_l_draw) (H_l_pick) (H_l_letters) (H_l_word) (H_l_shuffle)
  have H_l_odd := has_l_odd (P := l.prog) (w := w) (base := base) Z A_l_odd (H_l_pick)
  have H_l_same := has_l_same (P := l.prog) (w := w) (base := base) Z A_l_same
  have H_l_is_name := fun n : Nat => has_l_is_name (P := l.prog) (w := w) (base := base) n Z A_l_is_name (H_l_letters)
  have H_l_rising := has_l_rising (P := l.prog) (w := w) (base := base) Z A_l_rising
  have H_l_is_lot := has_l_is_lot (P := l.prog) (w := w) (base := base) Z A_l_is_lot (H_l_is_name 3) (H_l_rising)
  have H_l_is_said := has_l_is_said (P := l.prog) (w := w) (base := base) Z A_l_is_said (H_l_is_lot) (H_l_is_name 4)
  have H_l_rules := has_l_rules (P := l.prog) (w := w) (base := base) Z A_l_rules
  have H_l_subset := has_l_subset (P := l.prog) (w := w) (base := base) Z A_l_subset (H_l_draw) (H_l_pick)
  have H_l_fact := has_l_fact (P := l.prog) (w := w) (base := base) Z A_l_fact (H_l_draw) (H_l_pick)
  have H_l_said_like := has_l_said_like (P := l.prog) (w := w) (base := base) Z A_l_said_like (H_l_draw) (H_l_pick) (H_l_odd) (H_l_subset) (H_l_fact)
  have H_p_is_name := fun n : Nat => has_p_is_name (P := l.prog) (w := w) (base := base) n Z gL gM A_p_is_name
  have H_p_are_names := has_p_are_names (P := l.prog) (w := w) (base := base) Z A_p_are_names (H_p_is_name 5)
  have H_p_is_lot := has_p_is_lot (P := l.prog) (w := w) (base := base) Z A_p_is_lot (H_p_are_names)
  have H_p_is_before := has_p_is_before (P := l.prog) (w := w) (base := base) Z A_p_is_before (H_p_are_names)
  have H_p_is_statement := has_p_is_statement (P := l.prog) (w := w) (base := base) Z gN A_p_is_statement (H_p_is_lot) (H_p_is_before)
  have H_p_law := has_p_law (P := l.prog) (w := w) (base := base) Z gR A_p_law (H_l_start) (H_l_draw) (H_l_names) (H_l_odd) (H_l_same) (H_l_is_said) (H_l_rules) (H_l_said_like) (H_p_is_statement)
  exact has_fn H_p_law hfa l22
theorem walk {l : PySem.W.OpenLaw} {q : Program} {loose : List Str} {XP : (Str → Option Value) → Heap → Prop} {YP : World → Heap → Prop} {d : DefRec} {K : Params → PySem.W.Frag} (hn : l.most = some 63) (hdf : d.params.defaults = [])
    (hY : ∀ (w : World) (h : Heap), YP w h → (K w.params).In h)
    (F : ∀ (w : World) (mg : Str → Option Value) (fa : Addr) (h : Heap), (K w.params).In h → h.Ns mainGlobals mg → mg d.name = some (.ref fa) →
      ∃ fd : FuncData, (∀ (s : Shared) (u : Value), BindsTo s fd ⟨[u], []⟩ [("_law_script", u)]) ∧ ∀ base : Heap, (K w.params).In base → base.Ns mainGlobals mg → FnOk l.prog w (K w.params) mg base CX0 7 fa fd ["_law_script"] (spLawK (K w.params))) :
    PySem.W.WalkO q loose XP YP l.row.toRowW d [] (fun f vs => PySem.call f vs) :=
  L2.walk_of (n := 63) (k := 7) (x := "_law_script") (CX := fun _ => CX0) (sp := fun w => spLawK (K w.params)) hn (by decide) hdf ⟨rfl, by decide, by decide⟩ hY F (fun _ _ a ns hl _ hS => ⟨a, ns, rfl, hS, hl, fun _ => rfl⟩) fun _ _ _ _ _ z => z
end Th
open PySem PySem.W PyProof.Rows
set_option maxRecDepth 100000 in
set_option maxHeartbeats 0 in
theorem PySem.Challenge.cw_threeorders_k14_statements_judged_holds : PySem.Challenge.rw_threeorders_k14_statements_judged.Holds := by
  w_on; o_law; k_head; (case hw => w_witness2)
  k_fill
  refine Th.walk (l := PySem.Challenge.rw_threeorders_k14_statements_judged) rfl rfl (fun w h Y => PySem.W.kIn_of Y) ?F
  case F =>
    intro w mg fa h KX G hmg
    refine' Th.all_mk KX G hmg ?a0 ?l0 ?c0 ?k0 ?a1 ?l1 ?c1 ?k1 ?a2 ?l2 ?c2 ?k2 ?a3 ?l3 ?c3 ?k3 ?a4 ?l4 ?c4 ?k4 ?a5 ?l5 ?c5 ?k5 ?a6 ?l6 ?c6 ?k6 ?a7 ?l7 ?c7 ?k7 ?a8 ?l8 ?c8 ?k8 ?a9 ?l9 ?c9 ?k9 ?a10 ?l10 ?c10 ?k10 ?a11 ?l11 ?c11 ?k11 ?a12 ?l12 ?c12 ?k12 ?a13 ?l13 ?c13 ?k13 ?a14 ?l14 ?c14 ?k14 ?a15 ?l15 ?c15 ?k15 ?a16 ?l16 ?c16 ?k16 ?a17 ?l17 ?c17 ?k17 ?a18 ?l18 ?c18 ?k18 ?a19 ?l19 ?c19 ?k19 ?a20 ?l20 ?c20 ?k20 ?a21 ?l21 ?c21 ?k21 ?a22 ?l22 ?c22 ?k22 ?z_len ?z_range ?z_int ?z_abs ?z_isinstance ?z_all ?z_any ?z_sorted ?z_set ?z_list ?z_tuple ?z_str ?z_bool ?z_enumerate ?z_min ?z_max ?xL ?xM ?xN ?yN ?vN ?xR ?yR ?vR
    (case a0 => k_is)
    (case l0 => k_is)
    (case c0 => k_is)
    (case k0 => k_is)
    (case a1 => k_is)
    (case l1 => k_is)
    (case c1 => k_is)
    (case k1 => k_is)
    (case a2 => k_is)
    (case l2 => k_is)
    (case c2 => k_is)
    (case k2 => k_is)
    (case a3 => k_is)
    (case l3 => k_is)
    (case c3 => k_is)
    (case k3 => k_is)
    (case a4 => k_is)
    (case l4 => k_is)
    (case c4 => k_is)
    (case k4 => k_is)
    (case a5 => k_is)
    (case l5 => k_is)
    (case c5 => k_is)
    (case k5 => k_is)
    (case a6 => k_is)
    (case l6 => k_is)
    (case c6 => k_is)
    (case k6 => k_is)
    (case a7 => k_is)
    (case l7 => k_is)
    (case c7 => k_is)
    (case k7 => k_is)
    (case a8 => k_is)
    (case l8 => k_is)
    (case c8 => k_is)
    (case k8 => k_is)
    (case a9 => k_is)
    (case l9 => k_is)
    (case c9 => k_is)
    (case k9 => k_is)
    (case a10 => k_is)
    (case l10 => k_is)
    (case c10 => k_is)
    (case k10 => k_is)
    (case a11 => k_is)
    (case l11 => k_is)
    (case c11 => k_is)
    (case k11 => k_is)
    (case a12 => k_is)
    (case l12 => k_is)
    (case c12 => k_is)
    (case k12 => k_is)
    (case a13 => k_is)
    (case l13 => k_is)
    (case c13 => k_is)
    (case k13 => k_is)
    (case a14 => k_is)
    (case l14 => k_is)
    (case c14 => k_is)
    (case k14 => k_is)
    (case a15 => k_is)
    (case l15 => k_is)
    (case c15 => k_is)
    (case k15 => k_is)
    (case a16 => k_is)
    (case l16 => k_is)
    (case c16 => k_is)
    (case k16 => k_is)
    (case a17 => k_is)
    (case l17 => k_is)
    (case c17 => k_is)
    (case k17 => k_is)
    (case a18 => k_is)
    (case l18 => k_is)
    (case c18 => k_is)
    (case k18 => k_is)
    (case a19 => k_is)
    (case l19 => k_is)
    (case c19 => k_is)
    (case k19 => k_is)
    (case a20 => k_is)
    (case l20 => k_is)
    (case c20 => k_is)
    (case k20 => k_is)
    (case a21 => k_is)
    (case l21 => k_is)
    (case c21 => k_is)
    (case k21 => k_is)
    (case a22 => k_is)
    (case l22 => k_is)
    (case c22 => k_is)
    (case k22 => k_is)
    (case z_len => k_is)
    (case z_range => k_is)
    (case z_int => k_is)
    (case z_abs => k_is)
    (case z_isinstance => k_is)
    (case z_all => k_is)
    (case z_any => k_is)
    (case z_sorted => k_is)
    (case z_set => k_is)
    (case z_list => k_is)
    (case z_tuple => k_is)
    (case z_str => k_is)
    (case z_bool => k_is)
    (case z_enumerate => k_is)
    (case z_min => k_is)
    (case z_max => k_is)
    (case xL => k_is)
    (case xM => k_is)
    (case xN => k_is)
    (case yN => k_is)
    (case xR => k_is)
    (case yR => k_is)
    (case vN => exact .cons ⟨_, rfl⟩ .nil)
    (case vR => exact (.cons ⟨_, rfl⟩ (.cons ⟨_, rfl⟩ (.cons ⟨_, rfl⟩ (.cons ⟨_, rfl⟩ (.cons ⟨_, rfl⟩ (.cons ⟨_, rfl⟩ (.cons ⟨_, rfl⟩ (.cons ⟨_, rfl⟩ (.cons ⟨_, rfl⟩ (.cons ⟨_, rfl⟩ (.cons ⟨_, rfl⟩ (.cons ⟨_, rfl⟩ .nil)))))))))))))
