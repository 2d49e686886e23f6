import PyProof.Rows.All
import Wide.All
import OpenK.AllK
import Wide.FinOn
import PyProof.EqAt
import PyProof.EqKinds
import PyProof.TupleCall
import HandS.Base
import HandS.Call
import HandS.List
import HandS.Set
import HandS.SetFor
import HandS.Comp
import HandS.Iter
import HandS.Text
import HandS.Ends
import HandS.Words
import HandS.WordsList
import HandS.IsInst
import HandS.Style
import HandS.TupAny
import HandS.More
import HandS.Walk
import HandS.Wide
import HandS.Codes
import HandS.ReCall
import HandS.Strs
import KE.KExcInit
import KE.KTryMore
import KE.KExcHand
import HandS.Exc
import HandS.ExcInit
import HandS.WordsExc
import HandS.HotCalls
import HandS.Lambda
import HandS.ExcField
import HandS.EndOwn
import HandS.Deep
import PyProof.P3In
import HandS.ExcIs
import KE.GoesEnum
import HandS.Star
import PyProof.EnumMake
import HandS.Defaults
import KE.KOpsOwn
import HandS.CallLocal
import HandS.Sort
import HandS.Conv
import HandS.MakeKwOnly
import HandS.MakeKw
import HandS.SlotsOwn
import HandS.DictComp
import PyProof.ReprRoads
import HandS.EndTab
import PyProof.Rows.NestShow
import PyProof.StrLawsRepr
import HandS.SortRule
import PySem.Challenge.RW_threeorders_k07_tables_refused
set_option Elab.async false
set_option linter.all false
set_option maxRecDepth 100000
set_option maxHeartbeats 8000000
/-! sets of texts: set(xs) of a list or tuple of texts, sorted of it -/
namespace L2
open PySem PySem.Spec PyProof.Rows

/-- the text that an entry of a set's table holds -/
def tagOf (v : Value) : Str := match v with | .str x _ => x | _ => Str.empty
def tagE (e : Int × Value) : Str := tagOf e.2

/-- at a stands a set whose members are the texts of l, each once; its table can be walked -/
def TxSet (P : Program) (w : World) (h : Heap) (a : Addr) (l : List Str) : Prop :=
  ∃ o es ep t, h.get? a = some o ∧ o.ExactSet ∧ o.data = .set es ep t ∧
    (∀ e ∈ es.toList, ∃ tk, e.2 = Value.str (tagE e) tk ∧ e.1 = (PySem.strKind P w).hash (tagE e)) ∧
    (es.toList.map tagE).Perm l ∧ l.Nodup ∧ es.size < scanBound ∧ t.fits es.size = true ∧ Ris t.place.toList ∧
    (w.params.followText "set-order" = true ∨ t.led = true)

section
variable {P : Program} {w : World} {h h' : Heap} {a : Addr} {l : List Str}
theorem TxSet.stay (R : TxSet P w h a l) (k : ∀ o, h.get? a = some o → h'.get? a = some o) : TxSet P w h' a l :=
  let ⟨o, es, ep, t, ho, r⟩ := R
  ⟨o, es, ep, t, k o ho, r⟩
theorem TxSet.perm {m : List Str} (R : TxSet P w h a l) (p : l.Perm m) : TxSet P w h a m :=
  let ⟨o, es, ep, t, ho, hx, hd, g, pm, nd, r⟩ := R
  ⟨o, es, ep, t, ho, hx, hd, g, pm.trans p, p.nodup_iff.mp nd, r⟩
theorem tx_elems {es : List (Int × Value)} (g : ∀ e ∈ es, ∃ tk, e.2 = Value.str (tagE e) tk ∧ e.1 = (PySem.strKind P w).hash (tagE e)) : ElemsOf (PySem.strKind P w) es := by
  intro e he
  obtain ⟨tk, h1, h2⟩ := g e he
  refine ⟨⟨tagE e, ?_, h2⟩, ?_⟩
  · rw [h1]
    exact PySem.strKind_is P w (tagE e) tk
  · rw [h1]
    rfl
theorem tx_is {es : List (Int × Value)} (g : ∀ e ∈ es, ∃ tk, e.2 = Value.str (tagE e) tk ∧ e.1 = (PySem.strKind P w).hash (tagE e)) {e : Int × Value} (he : e ∈ es) (x : Str) : (PySem.strKind P w).is x e.2 = true ↔ tagE e = x := by
  obtain ⟨tk, h1, _⟩ := g e he
  constructor
  · intro q
    rw [h1] at q
    obtain ⟨t, z⟩ := Value.isStrOf_shape (show Value.isStrOf x (Value.str (tagE e) tk) = true from q)
    injection z
  · intro q
    rw [h1, q]
    exact PySem.strKind_is P w x tk
end

section
variable {P : Program} {w : World} {A : Around} {E : Value → Shared → Prop} {s : Shared} {a : Addr} {l : List Str}

/-- the set's store, and the table's growth behind it -/
theorem tx_store {g : Bool → Sem Unit} (hg : ∀ (b : Bool) (s₁ : Shared) (Q' : Unit → Shared → Prop), Q' () s₁ → wpAny (model P w) A (g b) Q' E s₁)
    {o : Obj} {es : Array (Int × Value)} {ep : Nat} {t : SetTable} (ho : s.heap.get? a = some o) (hex : o.ExactSet) (hd : o.data = .set es ep t)
    {fs : Array (Int × Value)} {u : SetTable} {m : List Str}
    (hgood : ∀ e ∈ fs.toList, ∃ tk, e.2 = Value.str (tagE e) tk ∧ e.1 = (PySem.strKind P w).hash (tagE e)) (hp : (fs.toList.map tagE).Perm m) (hm : m.Nodup)
    (hb : fs.size < scanBound) (hf : u.fits fs.size = true) (hr : Ris u.place.toList) (hl : w.params.followText "set-order" = true ∨ u.led = true) {dum : Bool} {R : Option Bool → Shared → Prop}
    (fin : ∀ h', Heap.SameBut a s.heap h' → TxSet P w h' a m → R (some true) { s with heap := h' }) :
    wpAny (model P w) A (do
        storeSet a fs u
        if (!dum && u.tooFull) = true then do
            g (relayAll u fs (SetTable.grown fs.size)).2.2
            storeSet a (relayAll u fs (SetTable.grown fs.size)).1 (relayAll u fs (SetTable.grown fs.size)).2.1
            pure (some true)
          else pure (some true)) R E s := by
  refine wpAny_bind (wpAny_storeSet_of ho hd ?_ (fits_of_scanBound hb))
  have q1 := store_at (es' := fs) (t' := u) ho hd
  have b1 := Heap.SameBut.update s.heap a (Obj.putSet fs u)
  split
  · have c1 := relayAll_perm u fs (SetTable.grown fs.size)
    have c2 := relayAll_fits u fs (SetTable.grown fs.size)
    have c3 := relayAll_ris u fs (SetTable.grown fs.size)
    have c4 := relayAll_led u fs (SetTable.grown fs.size)
    generalize relayAll u fs (SetTable.grown fs.size) = Z at c1 c2 c3 c4 ⊢
    obtain ⟨gs, v, gave⟩ := Z
    dsimp only at c1 c2 c3 c4 ⊢
    have z1 : gs.size = fs.size := by rw [← Array.length_toList, c1.length_eq, Array.length_toList]
    have z2 : gs.size < scanBound := by rw [z1]; exact hb
    refine wpAny_bind (hg _ _ _ ?_)
    refine wpAny_bind (wpAny_storeSet_of q1 rfl ?_ (fits_of_scanBound z2))
    have q2 := store_at (es' := gs) (t' := v) q1 rfl
    refine wpAny_pure (fin _ (b1.trans (Heap.SameBut.update _ a _)) ?_)
    refine ⟨_, gs, _, v, q2, hex, rfl, fun e he => hgood e (c1.mem_iff.mp he), (c1.map tagE).trans hp, hm, z2, c2, c3, ?_⟩
    rcases hl with z | z
    · exact .inl z
    · exact .inr (c4.trans z)
  · exact wpAny_pure (fin _ b1 ⟨_, fs, _, u, q1, hex, rfl, hgood, hp, hm, hb, hf, hr, hl⟩)

/-- one text more -/
theorem tx_put {x : Str} {tk : Tok} {Q : Bool → Shared → Prop} (R : TxSet P w s.heap a l) (room : l.length + 1 < scanBound)
    (fin : ∀ h' b, Heap.SameBut a s.heap h' → TxSet P w h' a (if x ∈ l then l else x :: l) → Q b { s with heap := h' }) :
    wpAny (model P w) A (setAddHashed a (.str x tk) ((PySem.strKind P w).hash x)) Q E s := by
  obtain ⟨o, es, ep, t, ho, hex, hd, g, hp, nd, hb, hf, hr, hl⟩ := R
  have hkey : (PySem.strKind P w).is x (.str x tk) = true := PySem.strKind_is P w x tk
  have hsc : (Value.str x tk).scannable = true := rfl
  have hel := tx_elems g
  unfold setAddHashed setAddHashedIn
  refine wpAny_holding (wpAny_bind (wpAny_setState_of ho hd hf ?_))
  dsimp only
  rw [byScan_of hsc hb hel]
  simp only [↓reduceIte]
  unfold setAddByScan
  refine wpAny_bind (wpAny_bind (wpAny_rule (wpAny_bind (wpAny_setScan_of hkey ho hd hf hel ?_))))
  cases hfi : List.findIdx? (fun e => (PySem.strKind P w).is x e.2) es.toList with
  | some j =>
    dsimp only
    obtain ⟨hj, pj, _⟩ := List.findIdx?_eq_some_iff_getElem.mp hfi
    have hx : x ∈ l := hp.mem_iff.mp (List.mem_map.mpr ⟨es.toList[j], List.getElem_mem hj, (tx_is g (List.getElem_mem hj) x).mp pj⟩)
    refine wpAny_pure (wpAny_pure (fin s.heap _ (Heap.SameBut.refl a s.heap) ?_))
    rw [if_pos hx]
    exact ⟨o, es, ep, t, ho, hex, hd, g, hp, nd, hb, hf, hr, hl⟩
  | none =>
    dsimp only
    have hx : x ∉ l := fun z => by
      obtain ⟨e, he, q⟩ := List.mem_map.mp (hp.mem_iff.mpr z)
      have c := List.findIdx?_eq_none_iff.mp hfi e he
      rw [(tx_is g he x).mpr q] at c
      cases c
    have gw : ∀ (b : Bool) {s₁ : Shared} {Q' : Unit → Shared → Prop}, Q' () s₁ → wpAny (model P w) A (match b with | true => rule "set.scan.the-table-gave-way" | false => pure ()) Q' E s₁ :=
      fun b s₁ Q' q => by cases b <;> first | exact wpAny_pure q | exact wpAny_rule q
    have d1 := layNew_perm t es ((PySem.strKind P w).hash x) (.str x tk)
    have d2 := layNew_fits t es ((PySem.strKind P w).hash x) (.str x tk)
    have d3 := layNew_ris t es ((PySem.strKind P w).hash x) (.str x tk) hr
    have d4 := layNew_led t es ((PySem.strKind P w).hash x) (.str x tk)
    generalize layNew t es ((PySem.strKind P w).hash x) (.str x tk) = Z at d1 d2 d3 d4 ⊢
    obtain ⟨fs, u, dum, gave⟩ := Z
    dsimp only at d1 d2 d3 d4 ⊢
    rw [Array.toList_push] at d1
    have e1 : fs.toList.Perm (((PySem.strKind P w).hash x, Value.str x tk) :: es.toList) := d1.trans (List.perm_append_singleton _ _)
    have e2 : (fs.toList.map tagE).Perm (x :: l) := (e1.map tagE).trans (List.Perm.cons x hp)
    have good : ∀ e ∈ fs.toList, ∃ tk, e.2 = Value.str (tagE e) tk ∧ e.1 = (PySem.strKind P w).hash (tagE e) := fun e he => by
      rcases List.mem_cons.mp (e1.mem_iff.mp he) with z | z
      · rw [z]; exact ⟨tk, rfl, rfl⟩
      · exact g e z
    have e3 : (x :: l).Nodup := List.nodup_cons.mpr ⟨hx, nd⟩
    have e4 : fs.size = l.length + 1 := by rw [← Array.length_toList, ← List.length_map (f := tagE), e2.length_eq]; rfl
    have e5 : fs.size < scanBound := by rw [e4]; exact room
    have e6 : w.params.followText "set-order" = true ∨ u.led = true := by
      rcases hl with z | z
      · exact .inl z
      · exact .inr (d4.trans z)
    have last : ∀ h' b, Heap.SameBut a s.heap h' → TxSet P w h' a (x :: l) → Q b { s with heap := h' } := fun h' b sb r => fin h' b sb (by rw [if_neg hx]; exact r)
    refine wpAny_bind (gw _ ?_)
    split
    · refine wpAny_bind ?_
      rw [hashByValue_scannable 8 hsc]
      refine wpAny_pure ?_
      refine tx_store ?_ ho hex hd good e2 e3 e5 ?_ ?_ ?_ ?_
      · intro b s₁ Q' q; cases b <;> first | exact wpAny_pure q | exact wpAny_rule q
      · first | (split <;> first | exact d2 | exact SetTable.fits_plain_off d2) | exact d2
      · first | (split <;> exact d3) | exact d3
      · first | (split <;> exact e6) | exact e6
      · intro h' sb r; dsimp only; exact wpAny_pure (last h' _ sb r)
    · refine wpAny_bind (wpAny_pure ?_)
      simp only [↓reduceIte]
      refine tx_store ?_ ho hex hd good e2 e3 e5 d2 d3 e6 ?_
      · intro b s₁ Q' q; cases b <;> first | exact wpAny_pure q | exact wpAny_rule q
      · intro h' sb r; dsimp only; exact wpAny_pure (last h' _ sb r)

/-- the texts of xs, each once, as a set that took them one by one holds them -/
def once : List Str → List Str → List Str
  | acc, [] => acc
  | acc, x :: r => once (if x ∈ acc then acc else x :: acc) r
theorem once_nodup : ∀ (xs acc : List Str), acc.Nodup → (once acc xs).Nodup
  | [], _, h => h
  | x :: r, acc, h => by
    unfold once
    refine once_nodup r _ ?_
    split
    · exact h
    · exact List.nodup_cons.mpr ⟨by assumption, h⟩
theorem once_mem : ∀ (xs acc : List Str) (y : Str), y ∈ once acc xs ↔ y ∈ acc ∨ y ∈ xs
  | [], acc, y => by simp [once]
  | x :: r, acc, y => by
    unfold once
    rw [once_mem r _ y]
    split
    · rename_i hx
      constructor
      · rintro (z | z)
        · exact .inl z
        · exact .inr (List.mem_cons_of_mem _ z)
      · rintro (z | z)
        · exact .inl z
        · rcases List.mem_cons.mp z with e | z
          · exact .inl (e ▸ hx)
          · exact .inr z
    · simp only [List.mem_cons]
      constructor
      · rintro ((z | z) | z)
        · exact .inr (.inl z)
        · exact .inl z
        · exact .inr (.inr z)
      · rintro (z | z | z)
        · exact .inl (.inr z)
        · exact .inl (.inl z)
        · exact .inr z
theorem once_length : ∀ (xs acc : List Str), (once acc xs).length ≤ acc.length + xs.length
  | [], acc => by simp [once]
  | x :: r, acc => by
    unfold once
    have q := once_length r (if x ∈ acc then acc else x :: acc)
    rw [List.length_cons]
    split at q
    · rw [if_pos (by assumption)]; omega
    · rw [if_neg (by assumption)]; rw [List.length_cons] at q; omega

/-- the loop of set(xs): one text after another -/
theorem tx_loop {I : Addr} {fp wr : List Addr} {G : Array GenState → Array GenState → Prop} {n : Nat} {Pv : Nat → Value → Prop} {St : Nat → Shared → Prop} {R : Result → Shared → Prop}
    (W : WalksS P w A.in1 I fp wr G n Pv St) (S : Addr) (hSf : S ∉ fp) (xs : List Str) (hn : n = xs.length) (hval : ∀ i v, Pv i v → ∃ x t, xs[i]? = some x ∧ v = .str x t) :
    ∀ (k i : Nat) (acc : List Str) (s : Shared), n - i = k → i ≤ n → St i s → TxSet P w s.heap S acc → acc.length + k + 1 < scanBound →
      (∀ s', Moved (S :: wr) G s s' → TxSet P w s'.heap S (once acc (xs.drop i)) → R (.ok (.ret .none)) s') →
      codeAny (model P w) A (.builtin "set.update.loop" ⟨[.ref S, .ref I], []⟩) R s := by
  have nw : S ∉ wr := fun h => hSf (W.sub _ h)
  have sb : ∀ b ∈ wr, b ∈ S :: wr := fun b hb => List.mem_cons_of_mem _ hb
  intro k
  induction k with
  | zero =>
    intro i acc s hk hi hst hS _ hR
    have e : i = n := by omega
    subst e
    refine codeAny_builtin F.entry_set_update_loop ?_
    rw [Around.under_plainId F.plain_set_update_loop _]
    show wpAny _ A.in1 (pyNext (.ref I) >>= _) _ _ s
    refine wpAny_bind (W.done s _ _ hst fun s' hm => ?_)
    show wpAny _ A.in1 (ret Value.none) _ _ s'
    have q : xs.drop i = [] := List.drop_eq_nil_of_le (by omega)
    rw [q] at hR
    exact wpAny_pure (hR s' (hm.mono sb) (hS.stay fun o e => hm.heap S o nw e))
  | succ k ih =>
    intro i acc s hk hi hst hS hroom hR
    have lt : i < n := by omega
    refine codeAny_builtin F.entry_set_update_loop ?_
    rw [Around.under_plainId F.plain_set_update_loop _]
    show wpAny _ A.in1 (pyNext (.ref I) >>= _) _ _ s
    refine wpAny_bind (W.item i s _ _ lt hst fun v s' hP hst' hm => ?_)
    obtain ⟨x, t, hx, rfl⟩ := hval i v hP
    have hS1 : TxSet P w s'.heap S acc := hS.stay fun o e => hm.heap S o nw e
    show wpAny _ A.in1 (holding [Value.str x t] (setAdd S (.str x t)) >>= _) _ _ s'
    refine wpAny_bind (wpAny_holding ?_)
    unfold setAdd
    refine wpAny_holding ?_
    refine wpAny_bind ((PySem.strKind P w).pyHash (k := x) (PySem.strKind_is _ _ _ _) ?_)
    refine tx_put (s := { s' with toks := s'.toks + 1 }) hS1 (by omega) fun h' b hsb hS2 => ?_
    have ed : xs.drop i = x :: xs.drop (i + 1) := by
      have hlt : i < xs.length := by omega
      rw [List.drop_eq_getElem_cons hlt]
      have q : xs[i] = x := by
        rw [List.getElem?_eq_getElem hlt] at hx
        exact Option.some.inj hx
      rw [q]
    have hlen : (if x ∈ acc then acc else x :: acc).length ≤ acc.length + 1 := by
      split
      · omega
      · exact Nat.le_refl _
    refine wpAny_pure ⟨plainId_quiet F.plain_set_update_loop _, ih (i + 1) _ _ (by omega) lt (W.frame _ s' _ _ hst' (Nat.le_succ _) fun b hb o e => ?_) hS2 (by omega) fun s'' hm'' hS'' => ?_⟩
    · rw [hsb.2 b (fun h : b = S => hSf (by rw [← h]; exact hb))]; exact e
    · refine hR s'' (Moved.trans W.gtrans ((hm.mono sb).then_heap (Nat.le_succ _) fun b o hb e => ?_) hm'') (by rw [ed]; exact hS'')
      rw [hsb.2 b (fun h : b = S => hb (by rw [h]; exact List.mem_cons_self))]; exact e
end

/-- the set that set() has just laid -/
abbrev txNew (w : World) : Obj := { cls := .type "set", dict := none, data := .set #[] 0 (.fresh 0 0 (!w.params.followText "set-order")) }
theorem txNew_at {P : Program} {w : World} {h : Heap} {a : Addr} (ho : h.get? a = some (txNew w)) : TxSet P w h a [] :=
  ⟨_, #[], 0, _, ho, ⟨rfl, rfl, rfl⟩, rfl, (fun e he => by simp at he), (by simp), List.nodup_nil, (by decide), (by rfl), List.Pairwise.nil, by
    show _ ∨ (!w.params.followText "set-order") = true
    cases w.params.followText "set-order"
    · exact .inr rfl
    · exact .inl rfl⟩
theorem txs_at : ∀ {us : List Value} {xs : List Str}, StrsAre us xs → ∀ (i : Nat) (v : Value), us[i]? = some v → ∃ x t, xs[i]? = some x ∧ v = .str x t
  | _, _, .nil, i, v, h => by simp at h
  | _, _, .cons y t r, 0, v, h => ⟨y, t, rfl, by simpa using h.symm⟩
  | _, _, .cons y t r, i + 1, v, h => by
    simp only [List.getElem?_cons_succ] at h
    exact txs_at r i v h
section
variable {P : Program} {w : World} {A : Around} {E : Value → Shared → Prop} {s : Shared}

set_option maxRecDepth 100000 in
set_option maxHeartbeats 6400000 in
/-- set(xs), xs a tuple of texts -/
theorem tx_call_tuple {l : Addr} {items : Array Value} (xs : List Str) {Q : Value → Shared → Prop} (hh : A.handled = none) (hl : s.heap.IsTuple l items) (hit : StrsAre items.toList xs) (hb : xs.length + 1 < scanBound)
    (fin : ∀ (h' : Heap) (tk : Nat), TxSet P w h' s.heap.objs.size (once [] xs) → (∀ b o, s.heap.get? b = some o → h'.get? b = some o) → Q (.ref s.heap.objs.size) { s with heap := h', toks := tk }) :
    wpAny (model P w) A (call (.type "set") [.ref l]) Q E s := by
  have isz : items.size = xs.length := by
    have q := StrsAre.len_eq hit
    rw [Array.length_toList] at q
    exact q
  obtain ⟨c, tl, hmro⟩ := F.called_set.mro
  have hmade := F.called_set.made
  have hsub := F.called_set.sub
  refine wpAny_call (codeAny_of_tree ?_)
  show wpAny _ _ (callAny (.type "set") _) _ _ _
  refine wpAny_pure ⟨Code.quiet_builtin _ (by decide +kernel), codeAny_builtin F.entry_type_call ?_⟩
  rw [Around.under_plain (weight_type_call_type "set" [.ref l] []) rfl]
  have h1 := F.called_set.notType
  have h2 := F.called_set.canCreate
  have hct := F.typeCall_set_1 (.ref l)
  repeat (any_goals (first | assumption | wp_step))
  refine codeAny_mono (code_set_led1 (.ref l) (E := E) (Q₁ := fun obj s₁ => obj = .ref s.heap.objs.size ∧ s₁ = { s with heap := s.heap.push (txNew w) }) ⟨rfl, rfl⟩) fun r s₁ hr => ?_
  cases r with
  | error e => exact hr
  | ok fl =>
    cases fl with
    | ret obj =>
      obtain ⟨rfl, rfl⟩ := hr
      have atS : (s.heap.push (txNew w)).get? s.heap.objs.size = some (txNew w) := Heap.get?_push_size _ rfl
      have hT : Shared.TypeIs { s with heap := s.heap.push (txNew w) } (.ref s.heap.objs.size) "set" := ⟨_, atS, rfl⟩
      have hli := F.called_set.init.lookup
      have hbi := F.called_set.init.bind (.ref s.heap.objs.size)
      repeat (any_goals (first | assumption | wp_step))
      refine codeAny_mono (codeAny_call_builtin (R := wants (fun r s₂ => r = .none ∧ ∃ h' tk, s₂ = { s with heap := h', toks := tk } ∧ TxSet P w h' s.heap.objs.size (once [] xs) ∧
          (∀ b o, s.heap.get? b = some o → h'.get? b = some o)) E) F.called_set.init.plain F.entry_set_init (check_set_init_1 hT ?_)) fun r₂ s₂ hr₂ => ?_
      · obtain ⟨ol, hol, hcl, nl, hdl⟩ := hl
        obtain ⟨ocls, odict, odata, oslots⟩ := ol
        simp only at hcl hdl
        subst hcl; subst hdl
        have old : (s.heap.push (txNew w)).get? l = some { cls := .type "tuple", dict := odict, data := .seq items nl, slots := oslots } := Heap.get?_push_of_some _ hol
        have hsls := F.sub_tuple_set
        have hslf := F.sub_tuple_frozenset
        have hne : (Value.type "tuple" == Value.type "dict") = false := by decide
        have hl1 : (s.heap.push (txNew w)).IsTuple l items := ⟨_, old, rfl, nl, rfl⟩
        unfold Builtin.«set.__init__» noKeywords Builtin.Frozenset.updateFrom
        generalize hPI : pyIter = PI
        wp_walk
        subst hPI
        refine wpAny_pyIter_tuple hl1 ?_
        refine wpAny_bind (wpAny_runValue ?_)
        have lS : l < s.heap.objs.size := Heap.lt_size hol
        have hh3 : A.in1.in1.in1.handled = none := by simp [hh]
        have apart : l ≠ (s.heap.push (txNew w)).objs.size := by
          rw [Heap.size_push]; exact Nat.ne_of_lt (Nat.lt_succ_of_lt lS)
        have notfp : s.heap.objs.size ∉ [(s.heap.push (txNew w)).objs.size, l] := by
          rw [Heap.size_push]; simp only [List.mem_cons, List.mem_singleton, List.not_mem_nil, or_false, not_or]
          exact ⟨Nat.ne_of_lt (Nat.lt_succ_self _), Nat.ne_of_gt lS⟩
        have hval : ∀ (i : Nat) (v : Value), items[i]? = some v → ∃ x t, xs[i]? = some x ∧ v = .str x t := fun i v hv => txs_at hit i v (by rw [Array.getElem?_toList]; exact hv)
        have at0 : ((s.heap.push (txNew w)).push { cls := .type "tuple_iterator", data := .fields #[.ref l, .int 0 0] }).get? s.heap.objs.size = some (txNew w) := Heap.get?_push_of_some _ atS
        refine tx_loop ((Walks.tuple hh3 _ l apart items).toS) s.heap.objs.size notfp xs isz hval (items.size - 0) 0 [] _ (by omega) (Nat.zero_le _)
          ⟨⟨_, Heap.get?_push_size _ rfl, rfl, rfl⟩, (hl1.push _)⟩ (txNew_at at0) (by rw [isz]; simpa using hb) fun s' hm hS => ?_
        obtain ⟨h', g2, d', tk', os'⟩ := s'
        have eg : g2 = s.gens := hm.gens
        have ed : d' = s.drawn := hm.drawn
        have eo : os' = s.os := hm.os
        subst eg; subst ed; subst eo
        show wpAny _ _ _ _ _ _
        refine wpAny_pure ?_
        show wpAny _ _ (ret Value.none) _ _ _
        refine wpAny_pure ⟨rfl, h', tk', rfl, hS, fun b o e => ?_⟩
        have b0 : b < s.heap.objs.size := Heap.lt_size e
        have b1 : b ≠ s.heap.objs.size := Nat.ne_of_lt b0
        have b2 : b ≠ (s.heap.push (txNew w)).objs.size := by
          rw [Heap.size_push]; exact Nat.ne_of_lt (Nat.lt_succ_of_lt b0)
        exact hm.heap b o (by simp only [List.mem_cons, List.mem_singleton, List.not_mem_nil, or_false, not_or]; exact ⟨b1, b2⟩) (Heap.get?_push_of_some _ (Heap.get?_push_of_some _ e))
      · cases r₂ with
        | error e => exact hr₂
        | ok fl₂ =>
          cases fl₂ with
          | ret r =>
            obtain ⟨rfl, h', tk, rfl, hS, kp⟩ := hr₂
            repeat (any_goals (first | assumption | wp_step))
            exact fin _ _ hS kp
          | _ => exact hr₂.elim
    | _ => exact hr.elim

set_option maxRecDepth 100000 in
set_option maxHeartbeats 6400000 in
/-- set(xs), xs a list of texts -/
theorem tx_call_list {l : Addr} {items : Array Value} (xs : List Str) {Q : Value → Shared → Prop} (hh : A.handled = none) (hl : s.heap.IsList l items) (hit : StrsAre items.toList xs) (hb : xs.length + 1 < scanBound)
    (fin : ∀ (h' : Heap) (tk : Nat), TxSet P w h' s.heap.objs.size (once [] xs) → (∀ b o, s.heap.get? b = some o → h'.get? b = some o) → Q (.ref s.heap.objs.size) { s with heap := h', toks := tk }) :
    wpAny (model P w) A (call (.type "set") [.ref l]) Q E s := by
  have isz : items.size = xs.length := by
    have q := StrsAre.len_eq hit
    rw [Array.length_toList] at q
    exact q
  obtain ⟨c, tl, hmro⟩ := F.called_set.mro
  have hmade := F.called_set.made
  have hsub := F.called_set.sub
  refine wpAny_call (codeAny_of_tree ?_)
  show wpAny _ _ (callAny (.type "set") _) _ _ _
  refine wpAny_pure ⟨Code.quiet_builtin _ (by decide +kernel), codeAny_builtin F.entry_type_call ?_⟩
  rw [Around.under_plain (weight_type_call_type "set" [.ref l] []) rfl]
  have h1 := F.called_set.notType
  have h2 := F.called_set.canCreate
  have hct := F.typeCall_set_1 (.ref l)
  repeat (any_goals (first | assumption | wp_step))
  refine codeAny_mono (code_set_led1 (.ref l) (E := E) (Q₁ := fun obj s₁ => obj = .ref s.heap.objs.size ∧ s₁ = { s with heap := s.heap.push (txNew w) }) ⟨rfl, rfl⟩) fun r s₁ hr => ?_
  cases r with
  | error e => exact hr
  | ok fl =>
    cases fl with
    | ret obj =>
      obtain ⟨rfl, rfl⟩ := hr
      have atS : (s.heap.push (txNew w)).get? s.heap.objs.size = some (txNew w) := Heap.get?_push_size _ rfl
      have hT : Shared.TypeIs { s with heap := s.heap.push (txNew w) } (.ref s.heap.objs.size) "set" := ⟨_, atS, rfl⟩
      have hli := F.called_set.init.lookup
      have hbi := F.called_set.init.bind (.ref s.heap.objs.size)
      repeat (any_goals (first | assumption | wp_step))
      refine codeAny_mono (codeAny_call_builtin (R := wants (fun r s₂ => r = .none ∧ ∃ h' tk, s₂ = { s with heap := h', toks := tk } ∧ TxSet P w h' s.heap.objs.size (once [] xs) ∧
          (∀ b o, s.heap.get? b = some o → h'.get? b = some o)) E) F.called_set.init.plain F.entry_set_init (check_set_init_1 hT ?_)) fun r₂ s₂ hr₂ => ?_
      · obtain ⟨ol, hol, hcl, nl, hdl⟩ := hl
        obtain ⟨ocls, odict, odata, oslots⟩ := ol
        simp only at hcl hdl
        subst hcl; subst hdl
        have old : (s.heap.push (txNew w)).get? l = some { cls := .type "list", dict := odict, data := .seq items nl, slots := oslots } := Heap.get?_push_of_some _ hol
        have hsls := F.sub_list_set
        have hslf := F.sub_list_frozenset
        have hne : (Value.type "list" == Value.type "dict") = false := by decide
        have hl1 : (s.heap.push (txNew w)).IsList l items := ⟨_, old, rfl, nl, rfl⟩
        unfold Builtin.«set.__init__» noKeywords Builtin.Frozenset.updateFrom
        generalize hPI : pyIter = PI
        wp_walk
        subst hPI
        refine wpAny_pyIter_list hl1 ?_
        refine wpAny_bind (wpAny_runValue ?_)
        have lS : l < s.heap.objs.size := Heap.lt_size hol
        have hh3 : A.in1.in1.in1.handled = none := by simp [hh]
        have apart : l ≠ (s.heap.push (txNew w)).objs.size := by
          rw [Heap.size_push]; exact Nat.ne_of_lt (Nat.lt_succ_of_lt lS)
        have notfp : s.heap.objs.size ∉ [(s.heap.push (txNew w)).objs.size, l] := by
          rw [Heap.size_push]; simp only [List.mem_cons, List.mem_singleton, List.not_mem_nil, or_false, not_or]
          exact ⟨Nat.ne_of_lt (Nat.lt_succ_self _), Nat.ne_of_gt lS⟩
        have hval : ∀ (i : Nat) (v : Value), items[i]? = some v → ∃ x t, xs[i]? = some x ∧ v = .str x t := fun i v hv => txs_at hit i v (by rw [Array.getElem?_toList]; exact hv)
        have at0 : ((s.heap.push (txNew w)).push { cls := .type "list_iterator", data := .fields #[.ref l, .int 0 0] }).get? s.heap.objs.size = some (txNew w) := Heap.get?_push_of_some _ atS
        refine tx_loop ((Walks.list hh3 _ l apart items).toS) s.heap.objs.size notfp xs isz hval (items.size - 0) 0 [] _ (by omega) (Nat.zero_le _)
          ⟨⟨_, Heap.get?_push_size _ rfl, rfl, rfl⟩, (hl1.push _)⟩ (txNew_at at0) (by rw [isz]; simpa using hb) fun s' hm hS => ?_
        obtain ⟨h', g2, d', tk', os'⟩ := s'
        have eg : g2 = s.gens := hm.gens
        have ed : d' = s.drawn := hm.drawn
        have eo : os' = s.os := hm.os
        subst eg; subst ed; subst eo
        show wpAny _ _ _ _ _ _
        refine wpAny_pure ?_
        show wpAny _ _ (ret Value.none) _ _ _
        refine wpAny_pure ⟨rfl, h', tk', rfl, hS, fun b o e => ?_⟩
        have b0 : b < s.heap.objs.size := Heap.lt_size e
        have b1 : b ≠ s.heap.objs.size := Nat.ne_of_lt b0
        have b2 : b ≠ (s.heap.push (txNew w)).objs.size := by
          rw [Heap.size_push]; exact Nat.ne_of_lt (Nat.lt_succ_of_lt b0)
        exact hm.heap b o (by simp only [List.mem_cons, List.mem_singleton, List.not_mem_nil, or_false, not_or]; exact ⟨b1, b2⟩) (Heap.get?_push_of_some _ (Heap.get?_push_of_some _ e))
      · cases r₂ with
        | error e => exact hr₂
        | ok fl₂ =>
          cases fl₂ with
          | ret r =>
            obtain ⟨rfl, h', tk, rfl, hS, kp⟩ := hr₂
            repeat (any_goals (first | assumption | wp_step))
            exact fin _ _ hS kp
          | _ => exact hr₂.elim
    | _ => exact hr.elim

theorem txs_of : ∀ (l : List Value), (∀ v ∈ l, ∃ tk, v = Value.str (tagOf v) tk) → StrsAre l (l.map tagOf)
  | [], _ => .nil
  | v :: l, h => by
    obtain ⟨tk, e⟩ := h v List.mem_cons_self
    rw [List.map_cons]
    generalize tagOf v = x at e ⊢
    subst e
    exact .cons x tk (txs_of l fun u hu => h u (List.mem_cons_of_mem _ hu))

/-- sorted(a set of texts) -/
theorem tx_sorted {a : Addr} {l : List Str} {Q : Value → Shared → Prop} (R : TxSet P w s.heap a l) (hh : A.handled = none) (h64 : l.length < 64)
    (fin : ∀ s' p (out : Array Value) (c : Nat) (ys : List Str), (∀ b o, s.heap.get? b = some o → s'.heap.get? b = some o) → s'.gens = s.gens → s'.os = s.os → s.heap.objs.size ≤ p →
      s'.heap.get? p = some (seqObj "list" out c) → StrsAre out.toList ys → ys.Perm l → sortedS ys = true → Q (.ref p) s') :
    wpAny (model P w) A (call (.builtin "sorted") [.ref a]) Q E s := by
  obtain ⟨o, es, ep, t, ho, hex, hd, g, hp, nd, hb, hf, hr, hl⟩ := R
  refine Calls.call_function_entry kind_sorted plain_sorted entry_sorted (args_sorted1 _) ?_
  unfold Builtin.«sorted»
  refine wpAny_bind (m := checkCount "sorted" 1 1 _) (wpAny_pure ?_)
  refine wpAny_bind (collect_set (A := A.in1) hh ⟨o, ho, hex.1, hd⟩ hf hb hr hl fun s1 vs k1 hz g1 o1 pm => ?_)
  have hS : StrsAre vs (vs.map tagOf) := txs_of vs fun v hv => by
    obtain ⟨e, he, q⟩ := List.mem_map.mp (pm.mem_iff.mp hv)
    obtain ⟨tk, h1, _⟩ := g e he
    rw [← q]
    exact ⟨tk, h1⟩
  have pk : (vs.map tagOf).Perm l := by
    have q := pm.map tagOf
    rw [List.map_map] at q
    exact q.trans hp
  have hvl : vs.length = l.length := by rw [← pk.length_eq, List.length_map]
  refine wpAny_bind (wpAny_newList ?_ (by rw [hvl, sizeLine_eq]; omega))
  have hoL : (s1.heap.push (seqObj "list" vs.toArray 0)).get? s1.heap.objs.size = some (seqObj "list" vs.toArray 0) := Heap.get?_push_size _ rfl
  refine wpAny_bind (wpAny_holding (wpAny_call_entry slot_list_sort ⟨_, hoL, rfl⟩ entry_list_sort
    (list_sort_treeK strKind_oneLt hoL hS.keysOf (fun v₁ v₂ rest e => keyKind_strs (by rw [← e]; exact hS)) (by rw [hvl]; exact h64) fun st' a1 a2 => ⟨_, rfl, ?_⟩) (args_list_sort _)))
  obtain ⟨ys, b1, b2, b3⟩ := sorted_out_str hS a1 a2
  obtain ⟨c, hc⟩ := sortedHeap_at (vs := vs) (out := (arrOf st').map (·.2)) hoL
  refine wpAny_pure ⟨_, rfl, fin _ s1.heap.objs.size _ c ys (fun b u e => ?_) g1 o1 hz hc b1 (b2.trans pk) b3⟩
  have q := k1 b u e
  have hlt := Heap.lt_size q
  show (sortedHeap (s1.heap.push (seqObj "list" vs.toArray 0)) s1.heap.objs.size vs _).get? b = some u
  rw [sortedHeap_old (Nat.ne_of_lt hlt) (by rw [size_push']; exact Nat.lt_succ_of_lt hlt)]
  exact Heap.get?_push_of_some _ q
end

end L2
namespace L2
open PySem PySem.Spec PyProof.Rows
/-! over the abstract heap -/
def SetS (P : Program) (w : World) (a : Addr) (l : List Str) : HO := .ext fun h => TxSet P w h a l
section
variable {X : Cx}
def rSetS (X : Cx) : List V → Hp → VK → Prop := fun vs H Q => ∃ (a : Addr) (xs : List Str), vs = [V.ref a] ∧ (SqL X.K H a (xs.map V.str) ∨ SqT X.K H a (xs.map V.str)) ∧ xs.length + 1 < scanBound ∧
  ∀ p, H p = none → Q (.ref p) (upd H p (SetS X.prog X.w p (once [] xs)))
theorem cr_setS (hc : X.calm = true) : CallR X (.type "set") (rSetS X) := by
  intro pins s σ H vs us Q I r h
  obtain ⟨a, xs, rfl, hs, hb, q⟩ := h
  rw [Vals.ref1 r]
  have key : ∀ (h' : Heap) (tk : Nat), TxSet X.prog X.w h' s.heap.objs.size (once [] xs) → (∀ b o, s.heap.get? b = some o → h'.get? b = some o) →
      EP X pins σ Q (.ref s.heap.objs.size) { s with heap := h', toks := tk } := fun h' tk R k => by
    have hn : H s.heap.objs.size = none := I.hok.fresh (Nat.le_refl _)
    refine ⟨.ref _, _, I.laid (t' := tk) k (Nat.le_refl _) ?_, rfl, q _ hn⟩
    refine ⟨R, ?_, fun h1 h2 z kk => z.stay kk⟩
    obtain ⟨o, _, _, _, ho, _⟩ := R
    exact ⟨o, ho⟩
  rcases hs with hs | hs
  · obtain ⟨its, rv, hl, _⟩ := I.list hs
    exact tx_call_list xs (I.ok.hd hc) hl.isList rv.strs hb key
  · obtain ⟨its, rv, hl, _⟩ := I.tuple hs
    exact tx_call_tuple xs (I.ok.hd hc) (show s.heap.IsTuple a its.toArray from hl) rv.strs hb key
def rSortedSetS (X : Cx) : List V → Hp → VK → Prop := fun vs H Q => ∃ (a : Addr) (l : List Str), vs = [V.ref a] ∧ H a = some (SetS X.prog X.w a l) ∧ l.length < 64 ∧
  ∀ (ys : List Str) (p : Addr), ys.Perm l → sortedS ys = true → H p = none → Q (.ref p) (upd H p (.lst (ys.map V.str)))
theorem cr_sortedSetS (hc : X.calm = true) : CallR X (.builtin "sorted") (rSortedSetS X) := by
  intro pins s σ H vs us Q I r h
  obtain ⟨a, l, rfl, ha, h64, q⟩ := h
  have R : TxSet X.prog X.w s.heap a l := (I.hok a _ ha).1
  rw [Vals.ref1 r]
  refine tx_sorted R (I.ok.hd hc) h64 fun s' p out c ys k g o hp hg hi hs hm => ?_
  have hlen : (ys.map V.str).length ≤ sizeLine := by rw [List.length_map, hs.length_eq, sizeLine_eq]; omega
  have hn : H p = none := I.hok.fresh hp
  have J : Inv X pins σ (upd H p (.lst (ys.map V.str))) { s with heap := s'.heap, gens := s'.gens, drawn := s'.drawn, toks := s'.toks } :=
    I.call (ch := []) (Un.laid k hp hn) (I.hok.laid k hp ⟨hlen, out.toList, c, vals_of_strs hi, hg⟩) (by rw [g]; exact I.bare) (fun _ z => nomatch z)
  have e : s' = { s with heap := s'.heap, gens := s'.gens, drawn := s'.drawn, toks := s'.toks } := by
    cases s'
    cases s
    cases o
    rfl
  rw [e]
  exact ⟨.ref p, _, J, rfl, q ys p hs hm hn⟩
end
end L2
/-! what all the laws' proofs share: the list that draws, data, names -/
namespace L2
open PySem PySem.Spec PyProof.Rows
section
variable {X : Cx} {CX : CXT} {k : Nat} {f : Addr} {fd : FuncData} {ps ks : List Str} {sp : Sp} {E : XK} {x : Str} {p pos : Pos} {kws : List Keyword} {tk : TA} {g : List Value → List Value → List Value} {gV : List V → List V → List V}
/-- f(k = v, ..), no argument by place -/
theorem pe_callK0 (F : FnOk X.prog X.w X.K X.mg X.base CX k f fd ps sp) (hr : Room k X.A) (hg : Gl X x) (hm : X.mg x = some (.ref f)) (hk : PySem.W.keepIn X.K (.ref f) = true) (hb : KBinds X.K fd ps ks g gV) (hx : Passes CX X E)
    (hkw : PK X kws tk) (hall : (backToKw pos (keywordEach kws X.env)).all (·.1.isSome) = true := by rfl) (hks : (backToKw pos (keywordEach kws X.env)).filterMap (·.1) = ks := by rfl)
    (hdb : (x == ("__debug__" : Str)) = false := by decide) (hpl : ((backTo pos (starEach [] X.env)).any (·.1) || (backToKw pos (keywordEach kws X.env)).any (·.1.isNone)) = false := by rfl) :
    PE X (.Call (.Name x p) [] kws pos) (tCallK sp gV E tNil tk) := by
  refine ⟨fun pins s σ H Q I h => ?_⟩
  refine wpAny_Call_Name_kw (ld_glob I hg hm ?_ hdb)
  refine PySem.W.callWith_KW0 (h₀ := X.base) I.ok.mod.kin hk hall ?_ hpl
  refine thn (hkw.run pos pins s σ H _ I h) fun ws s2 ⟨zs, H2, I2, rz, q2⟩ => ⟨I2.kIn, ?_⟩
  rw [hks]
  exact run_fnk (us := []) (vs := []) F hr hb hx I2 .nil rz q2
end
end L2

namespace Th
open PySem PySem.Spec PyProof.Rows L2

/-! ### heaps: what stands, but for one list -/
def hid (p : Addr) (H : Hp) : Hp := fun a => if a = p then none else H a
theorem hid_ne {p a : Addr} {H : Hp} (h : a ≠ p) : hid p H a = H a := if_neg h
theorem hid_self {p : Addr} {H : Hp} : hid p H p = none := if_pos rfl
theorem hid_some {p a : Addr} {H : Hp} {o : HO} (h : hid p H a = some o) : a ≠ p ∧ H a = some o := by
  by_cases e : a = p
  · subst e
    rw [hid_self] at h
    cases h
  · rw [hid_ne e] at h
    exact ⟨e, h⟩
theorem hid_same {p : Addr} {H : Hp} : Same (hid p H) H := fun a o h => (hid_some h).2
theorem same_new {H : Hp} {p : Addr} {o : HO} (h : H p = none) : Same H (upd H p o) := fun b x e => by
  rw [upd_ne (ne_of_none e h)]
  exact e
theorem same_mut {H H' : Hp} {q : Addr} {o : HO} (e : Same H H') (h : H q = none) : Same H (upd H' q o) := fun a u ha => by
  rw [upd_ne (ne_of_none ha h)]
  exact e a u ha

/-- the list that draws: where it stands, where its script stands, the script -/
structure DS where
  p : Addr
  l : Addr
  ns : List Int
structure Drw (D : DS) (H : Hp) : Prop where
  ne : D.l ≠ D.p
  sc : H D.l = some (.lst (D.ns.map V.int))
  few : D.ns.length ≤ 63
  st : ∃ i v m c : Int, H D.p = some (.lst [.ref D.l, .int i, .int v, .int m, .int c]) ∧ 0 ≤ i ∧ 0 ≤ v ∧ 0 ≤ m ∧ m < 2147483648 ∧ 0 ≤ c
theorem Drw.new {D : DS} {H : Hp} {q : Addr} {o : HO} (d : Drw D H) (h : H q = none) : Drw D (upd H q o) := by
  obtain ⟨ne, sc, few, i, v, m, c, st, r⟩ := d
  exact ⟨ne, by rw [upd_ne (ne_of_none sc h)]; exact sc, few, i, v, m, c, by rw [upd_ne (ne_of_none st h)]; exact st, r⟩
theorem Drw.at {D : DS} {H : Hp} (d : Drw D H) : ∃ o, H D.p = some o := by
  obtain ⟨_, _, _, i, v, m, c, st, _⟩ := d
  exact ⟨_, st⟩
structure Go (D : DS) (H H' : Hp) : Prop where
  sm : Same (hid D.p H) (hid D.p H')
  st : Drw D H'
theorem Go.refl {D : DS} {H : Hp} (d : Drw D H) : Go D H H := ⟨Same.refl _, d⟩
theorem Go.trans {D : DS} {H H1 H2 : Hp} (a : Go D H H1) (b : Go D H1 H2) : Go D H H2 := ⟨a.sm.trans b.sm, b.st⟩
theorem Go.of {D : DS} {H H' : Hp} (d : Drw D H) (s : Same H H') : Go D H H' := by
  refine ⟨fun a o h => ?_, ?_⟩
  · obtain ⟨e, h⟩ := hid_some h
    rw [hid_ne e]
    exact s a o h
  · obtain ⟨ne, sc, few, i, v, m, c, st, r⟩ := d
    exact ⟨ne, s _ _ sc, few, i, v, m, c, s _ _ st, r⟩
theorem Go.new {D : DS} {H H' : Hp} {q : Addr} {o : HO} (g : Go D H H') (h : H' q = none) : Go D H (upd H' q o) := g.trans (.of g.st (same_new h))
/-- a thing that did not stand ahead may change -/
theorem Go.mut {D : DS} {H H' : Hp} {q : Addr} {o : HO} (g : Go D H H') (d : Drw D H) (h : H q = none) : Go D H (upd H' q o) := by
  have np : q ≠ D.p := fun e => by
    obtain ⟨u, hu⟩ := d.at
    rw [← e, h] at hu
    cases hu
  refine ⟨fun a u ha => ?_, ?_⟩
  · obtain ⟨e, ha'⟩ := hid_some ha
    have q1 := g.sm a u ha
    rw [hid_ne e] at q1 ⊢
    rw [upd_ne (ne_of_none ha' h)]
    exact q1
  · obtain ⟨ne, sc, few, i, v, m, c, st, r⟩ := g.st
    exact ⟨ne, by rw [upd_ne (ne_of_none d.sc h)]; exact sc, few, i, v, m, c, by rw [upd_ne np.symm]; exact st, r⟩
theorem Go.free {D : DS} {H H' : Hp} {q : Addr} (g : Go D H H') (d : Drw D H) (h : H' q = none) : H q = none := by
  cases e : H q with
  | none => rfl
  | some o =>
    by_cases z : q = D.p
    · obtain ⟨u, hu⟩ := g.st.at
      rw [← z, h] at hu
      cases hu
    · have q1 := g.sm q o (by rw [hid_ne z]; exact e)
      rw [hid_ne z, h] at q1
      cases q1
theorem Go.old {D : DS} {H H' : Hp} {q : Addr} {o : HO} (g : Go D H H') (z : q ≠ D.p) (h : H q = some o) : H' q = some o := by
  have q1 := g.sm q o (by rw [hid_ne z]; exact h)
  rw [hid_ne z] at q1
  exact q1
theorem Drw.ne_new {D : DS} {H : Hp} {q : Addr} (d : Drw D H) (h : H q = none) : q ≠ D.p := fun e => by
  obtain ⟨u, hu⟩ := d.at
  rw [← e, h] at hu
  cases hu

/-! ### data -/
mutual
inductive Da (K : PySem.W.Frag) (H : Hp) : V → PyData → Prop
  | non : Da K H .non .none
  | bl (b : Bool) : Da K H (.bl b) (.bool b)
  | int (i : Int) : Da K H (.int i) (.int i)
  | str (x : Str) : Da K H (.str x) (.str x)
  | lst {a : Addr} {xs : List V} {ds : List PyData} : SqL K H a xs → TyX K H (.ref a) (.type "list") → DaAll K H xs ds → Da K H (.ref a) (.list ds)
  | tup {a : Addr} {xs : List V} {ds : List PyData} : SqT K H a xs → TyX K H (.ref a) (.type "tuple") → DaAll K H xs ds → Da K H (.ref a) (.tuple ds)
inductive DaAll (K : PySem.W.Frag) (H : Hp) : List V → List PyData → Prop
  | nil : DaAll K H [] []
  | cons {v : V} {vs : List V} {d : PyData} {ds : List PyData} : Da K H v d → DaAll K H vs ds → DaAll K H (v :: vs) (d :: ds)
end
theorem same_rd {H H' : Hp} {a : Addr} {u : HO} (e : Same H H') (h : Rd H a u) : Rd H' a u := by
  rcases h with h | ⟨o, h⟩
  · exact .inl (e a _ h)
  · exact .inr ⟨o, e a _ h⟩
theorem same_t {K : PySem.W.Frag} {H H' : Hp} {a : Addr} {xs : List V} (e : Same H H') (h : SqT K H a xs) : SqT K H' a xs := by
  rcases h with h | h
  · exact .inl (same_rd e h)
  · exact .inr h
theorem ty_same {K : PySem.W.Frag} {H H' : Hp} {v : V} {t : Value} (e : Same H H') (h : TyX K H v t) : TyX K H' v t := by
  cases h with
  | base b =>
    refine .base ?_
    cases b with
    | non => exact .non
    | bl x => exact .bl x
    | int i => exact .int i
    | str x => exact .str x
    | flt x => exact .flt x
    | lst h => exact .lst (e _ _ h)
    | frz h => exact .frz (e _ _ h)
    | tup h => exact .tup (e _ _ h)
    | dK h => exact .dK (e _ _ h)
    | dT h => exact .dT (e _ _ h)
    | ins h cl ha hn htk hm => exact .ins (e _ _ h) cl ha hn htk hm
  | byt b => exact .byt b
  | set h => exact .set (e _ _ h)
  | kList h c => exact .kList h c
  | kTuple h c => exact .kTuple h c
  | kDict h c => exact .kDict h c
  | fTuple h => exact .fTuple (e _ _ h)
  | fDict h => exact .fDict (e _ _ h)
section
variable {K : PySem.W.Frag} {H H' : Hp}
mutual
theorem Da.mono (e : Same H H') : ∀ (d : PyData) (v : V), Da K H v d → Da K H' v d
  | .none, _, h => by
    cases h
    exact .non
  | .bool b, _, h => by
    cases h
    exact .bl b
  | .int i, _, h => by
    cases h
    exact .int i
  | .str x, _, h => by
    cases h
    exact .str x
  | .list ds, _, h => by
    cases h with
    | lst hs ht ha => exact .lst (e.seq hs) (ty_same e ht) (DaAll.mono e ds _ ha)
  | .tuple ds, _, h => by
    cases h with
    | tup hs ht ha => exact .tup (same_t e hs) (ty_same e ht) (DaAll.mono e ds _ ha)
  | .dict _, _, h => by cases h
theorem DaAll.mono (e : Same H H') : ∀ (ds : List PyData) (vs : List V), DaAll K H vs ds → DaAll K H' vs ds
  | [], _, h => by
    cases h
    exact .nil
  | d :: ds, _, h => by
    cases h with
    | cons h1 h2 => exact .cons (Da.mono e d _ h1) (DaAll.mono e ds _ h2)
end
mutual
theorem Da.dp : ∀ (d : PyData) (v : V), Da K H v d → Dp K H v d
  | .none, _, h => by
    cases h
    exact .non
  | .bool b, _, h => by
    cases h
    exact .bl b
  | .int i, _, h => by
    cases h
    exact .int i
  | .str x, _, h => by
    cases h
    exact .str x
  | .list ds, _, h => by
    cases h with
    | lst hs ht ha => exact .lst hs (DaAll.dp ds _ ha)
  | .tuple ds, _, h => by
    cases h with
    | tup hs ht ha => exact .tup hs (DaAll.dp ds _ ha)
  | .dict _, _, h => by cases h
theorem DaAll.dp : ∀ (ds : List PyData) (vs : List V), DaAll K H vs ds → DpAll K H vs ds
  | [], _, h => by
    cases h
    exact .nil
  | d :: ds, _, h => by
    cases h with
    | cons h1 h2 => exact .cons (Da.dp d _ h1) (DaAll.dp ds _ h2)
end
theorem Da.to (h : Da K H v d) (e : Same H H') : Da K H' v d := Da.mono e d v h
theorem DaAll.to (h : DaAll K H vs ds) (e : Same H H') : DaAll K H' vs ds := DaAll.mono e ds vs h
theorem DaAll.len : ∀ {vs : List V} {ds : List PyData}, DaAll K H vs ds → vs.length = ds.length
  | _, _, .nil => rfl
  | _, _, .cons _ r => congrArg Nat.succ r.len
theorem DaAll.at : ∀ {vs : List V} {ds : List PyData} {i : Nat} {v : V}, DaAll K H vs ds → vs[i]? = some v → ∃ d, ds[i]? = some d ∧ Da K H v d
  | _, _, _, _, .nil, h => by simp at h
  | _, _, 0, v, .cons h _, e => ⟨_, rfl, by simp at e; rw [← e]; exact h⟩
  | _, _, i + 1, v, .cons _ r, e => by
    simp only [List.getElem?_cons_succ] at e
    obtain ⟨d, h1, h2⟩ := r.at e
    exact ⟨d, by simpa using h1, h2⟩
theorem DaAll.at' {vs : List V} {ds : List PyData} {i : Nat} {d : PyData} (h : DaAll K H vs ds) (e : ds[i]? = some d) : ∃ v, vs[i]? = some v ∧ Da K H v d := by
  obtain ⟨hi, _⟩ := List.getElem?_eq_some_iff.mp e
  have hv : i < vs.length := by rw [h.len]; exact hi
  obtain ⟨d', e', q⟩ := h.at (List.getElem?_eq_getElem hv)
  rw [e] at e'
  cases e'
  exact ⟨_, List.getElem?_eq_getElem hv, q⟩
theorem DaAll.app : ∀ {vs ws : List V} {ds es : List PyData}, DaAll K H vs ds → DaAll K H ws es → DaAll K H (vs ++ ws) (ds ++ es)
  | _, _, _, _, .nil, r => r
  | _, _, _, _, .cons h t, r => .cons h (t.app r)
theorem DaAll.take : ∀ {vs : List V} {ds : List PyData} (n : Nat), DaAll K H vs ds → DaAll K H (vs.take n) (ds.take n)
  | _, _, 0, _ => .nil
  | _, _, n + 1, .nil => .nil
  | _, _, n + 1, .cons h t => .cons h (t.take n)
theorem DaAll.drop : ∀ {vs : List V} {ds : List PyData} (n : Nat), DaAll K H vs ds → DaAll K H (vs.drop n) (ds.drop n)
  | _, _, 0, h => h
  | _, _, n + 1, .nil => .nil
  | _, _, n + 1, .cons h t => t.drop n
theorem DaAll.strs : ∀ xs : List Str, DaAll K H (xs.map V.str) (xs.map PyData.str)
  | [] => .nil
  | x :: r => .cons (.str x) (DaAll.strs r)
theorem DaAll.bls : ∀ xs : List Bool, DaAll K H (xs.map V.bl) (xs.map PyData.bool)
  | [] => .nil
  | x :: r => .cons (.bl x) (DaAll.bls r)
/-- a value of data that is all texts: the texts -/
theorem DaAll.isStrs : ∀ {vs : List V} {xs : List Str}, DaAll K H vs (xs.map PyData.str) → vs = xs.map V.str
  | _, [], h => by
    cases h
    rfl
  | _, x :: r, h => by
    cases h with
    | cons h1 h2 =>
      cases h1
      rw [h2.isStrs]
      rfl
theorem Da.newT {H : Hp} {q : Addr} {xs : List V} {ds : List PyData} (h : H q = some (.tup xs)) (r : DaAll K H xs ds) : Da K H (.ref q) (.tuple ds) := .tup (.inl (.inl h)) (.base (.tup h)) r
theorem Da.newL {H : Hp} {q : Addr} {xs : List V} {ds : List PyData} (h : H q = some (.lst xs)) (r : DaAll K H xs ds) : Da K H (.ref q) (.list ds) := .lst (.inl (.inl h)) (.base (.lst h)) r
end
/-- the class of a datum -/
def tyD : PyData → String
  | .none => "NoneType" | .bool _ => "bool" | .int _ => "int" | .str _ => "str" | .list _ => "list" | .tuple _ => "tuple" | .dict _ => "dict"
theorem Da.ty {K : PySem.W.Frag} {H : Hp} {v : V} {d : PyData} (h : Da K H v d) : TyX K H v (.type (tyD d)) := by
  cases h with
  | non => exact .base .non
  | bl b => exact .base (.bl b)
  | int i => exact .base (.int i)
  | str x => exact .base (.str x)
  | lst _ t _ => exact t
  | tup _ t _ => exact t
theorem kit_str (d : PyData) (h : tyD d ≠ "dict") : kitB (tyD d) "str" = some (decide (tyD d = "str")) := by
  cases d with
  | none => exact (by decide +kernel : kitB "NoneType" "str" = some (decide ("NoneType" = "str")))
  | bool b => exact (by decide +kernel : kitB "bool" "str" = some (decide ("bool" = "str")))
  | int i => exact (by decide +kernel : kitB "int" "str" = some (decide ("int" = "str")))
  | str x => exact (by decide +kernel : kitB "str" "str" = some (decide ("str" = "str")))
  | list xs => exact (by decide +kernel : kitB "list" "str" = some (decide ("list" = "str")))
  | tuple xs => exact (by decide +kernel : kitB "tuple" "str" = some (decide ("tuple" = "str")))
  | dict kvs => exact absurd rfl h
theorem kit_int (d : PyData) (h : tyD d ≠ "dict") : kitB (tyD d) "int" = some (decide (tyD d = "int" ∨ tyD d = "bool")) := by
  cases d with
  | none => exact (by decide +kernel : kitB "NoneType" "int" = some (decide ("NoneType" = "int" ∨ "NoneType" = "bool")))
  | bool b => exact (by decide +kernel : kitB "bool" "int" = some (decide ("bool" = "int" ∨ "bool" = "bool")))
  | int i => exact (by decide +kernel : kitB "int" "int" = some (decide ("int" = "int" ∨ "int" = "bool")))
  | str x => exact (by decide +kernel : kitB "str" "int" = some (decide ("str" = "int" ∨ "str" = "bool")))
  | list xs => exact (by decide +kernel : kitB "list" "int" = some (decide ("list" = "int" ∨ "list" = "bool")))
  | tuple xs => exact (by decide +kernel : kitB "tuple" "int" = some (decide ("tuple" = "int" ∨ "tuple" = "bool")))
  | dict kvs => exact absurd rfl h
theorem kit_bool (d : PyData) (h : tyD d ≠ "dict") : kitB (tyD d) "bool" = some (decide (tyD d = "bool")) := by
  cases d with
  | none => exact (by decide +kernel : kitB "NoneType" "bool" = some (decide ("NoneType" = "bool")))
  | bool b => exact (by decide +kernel : kitB "bool" "bool" = some (decide ("bool" = "bool")))
  | int i => exact (by decide +kernel : kitB "int" "bool" = some (decide ("int" = "bool")))
  | str x => exact (by decide +kernel : kitB "str" "bool" = some (decide ("str" = "bool")))
  | list xs => exact (by decide +kernel : kitB "list" "bool" = some (decide ("list" = "bool")))
  | tuple xs => exact (by decide +kernel : kitB "tuple" "bool" = some (decide ("tuple" = "bool")))
  | dict kvs => exact absurd rfl h
theorem kit_list (d : PyData) (h : tyD d ≠ "dict") : kitB (tyD d) "list" = some (decide (tyD d = "list")) := by
  cases d with
  | none => exact (by decide +kernel : kitB "NoneType" "list" = some (decide ("NoneType" = "list")))
  | bool b => exact (by decide +kernel : kitB "bool" "list" = some (decide ("bool" = "list")))
  | int i => exact (by decide +kernel : kitB "int" "list" = some (decide ("int" = "list")))
  | str x => exact (by decide +kernel : kitB "str" "list" = some (decide ("str" = "list")))
  | list xs => exact (by decide +kernel : kitB "list" "list" = some (decide ("list" = "list")))
  | tuple xs => exact (by decide +kernel : kitB "tuple" "list" = some (decide ("tuple" = "list")))
  | dict kvs => exact absurd rfl h
theorem kit_tuple (d : PyData) (h : tyD d ≠ "dict") : kitB (tyD d) "tuple" = some (decide (tyD d = "tuple")) := by
  cases d with
  | none => exact (by decide +kernel : kitB "NoneType" "tuple" = some (decide ("NoneType" = "tuple")))
  | bool b => exact (by decide +kernel : kitB "bool" "tuple" = some (decide ("bool" = "tuple")))
  | int i => exact (by decide +kernel : kitB "int" "tuple" = some (decide ("int" = "tuple")))
  | str x => exact (by decide +kernel : kitB "str" "tuple" = some (decide ("str" = "tuple")))
  | list xs => exact (by decide +kernel : kitB "list" "tuple" = some (decide ("list" = "tuple")))
  | tuple xs => exact (by decide +kernel : kitB "tuple" "tuple" = some (decide ("tuple" = "tuple")))
  | dict kvs => exact absurd rfl h
theorem Da.nodict {K : PySem.W.Frag} {H : Hp} {v : V} {d : PyData} (h : Da K H v d) : tyD d ≠ "dict" := by
  cases h with
  | non => exact (by decide : ("NoneType" : String) ≠ "dict")
  | bl b => exact (by decide : ("bool" : String) ≠ "dict")
  | int i => exact (by decide : ("int" : String) ≠ "dict")
  | str x => exact (by decide : ("str" : String) ≠ "dict")
  | lst _ _ _ => exact (by decide : ("list" : String) ≠ "dict")
  | tup _ _ _ => exact (by decide : ("tuple" : String) ≠ "dict")
end Th
namespace Th
open PySem PySem.Spec PyProof.Rows L2
/-! ### a def that stands at a name of the text and keeps a promise -/
/-- the built-in names are still the built-ins -/
structure Zs (mg : Str → Option Value) : Prop where
  len_ : mg "len" = none
  range_ : mg "range" = none
  int_ : mg "int" = none
  abs_ : mg "abs" = none
  isinstance_ : mg "isinstance" = none
  all_ : mg "all" = none
  any_ : mg "any" = none
  sorted_ : mg "sorted" = none
  set_ : mg "set" = none
  list_ : mg "list" = none
  tuple_ : mg "tuple" = none
  str_ : mg "str" = none
  bool_ : mg "bool" = none
  enumerate_ : mg "enumerate" = none
  min_ : mg "min" = none
  max_ : mg "max" = none
def At (K : PySem.W.Frag) (mg : Str → Option Value) (x : Str) (st : Stmt) (ps : List Str) : Prop :=
  ∃ (f : Addr) (fd : FuncData), Fun K x x st f fd ∧ mg x = some (.ref f) ∧ Binds K fd ps []
def Has (P : Program) (w : World) (K : PySem.W.Frag) (mg : Str → Option Value) (base : Heap) (x : Str) (st : Stmt) (k : Nat) (ps : List Str) (sp : Sp) : Prop :=
  ∃ (f : Addr) (fd : FuncData), FnOk P w K mg base CX0 k f fd ps sp ∧ mg x = some (.ref f) ∧ PySem.W.keepIn K (.ref f) = true ∧ Binds K fd ps [] ∧ Fun K x x st f fd
theorem kb_of {K : PySem.W.Frag} {x qual : Str} {st : Stmt} {f : Addr} {fd : FuncData} {ps ks : List Str} {g : List Value → List Value → List Value} {gV : List V → List V → List V} (F : Fun K x qual st f fd)
    (hrel : ∀ {vs : List V} {us : List Value} {zs : List V} {ws : List Value}, Vals vs us → Vals zs ws → Vals (gV vs zs) (g us ws))
    (h : ∀ (kV doc pm : Value) (an : Option Addr) (cdv ct : Value) (us ws : List Value), (g us ws).length = ps.length → bindArgs (PySem.W.fnOf x qual (defArgs st) (defBody st) (defScope st) .none kV doc pm an cdv ct) ⟨us, ks.zip ws⟩ = pure (ps.zip (g us ws))) :
    KBinds K fd ps ks g gV := by
  obtain ⟨oc, od, kV, doc, pm, an, cdv, ct, osl, rfl, lk, hcd⟩ := F.ex
  exact ⟨fun s us ws X hl => .of_eq (h kV doc pm an cdv ct us ws hl), fun r1 r2 => hrel r1 r2⟩
/-- one argument, by its name -/
def g1 {α : Type} : List α → List α → List α
  | [], [a] => [a]
  | _, _ => []
theorem g1_rel {vs : List V} {us : List Value} {zs : List V} {ws : List Value} (r1 : Vals vs us) (r2 : Vals zs ws) : Vals (g1 vs zs) (g1 us ws) := by
  cases r1 with
  | nil =>
    cases r2 with
    | nil => exact .nil
    | cons r r2 =>
      cases r2 with
      | nil => exact .cons r .nil
      | cons _ _ => exact .nil
  | cons _ _ =>
    cases r2 <;> exact .nil
/-- two arguments by their names, in the other order -/
def g2 {α : Type} : List α → List α → List α
  | [], [a, b] => [b, a]
  | _, _ => []
theorem g2_rel {vs : List V} {us : List Value} {zs : List V} {ws : List Value} (r1 : Vals vs us) (r2 : Vals zs ws) : Vals (g2 vs zs) (g2 us ws) := by
  cases r1 with
  | nil =>
    cases r2 with
    | nil => exact .nil
    | cons r r2 =>
      cases r2 with
      | nil => exact .nil
      | cons q r3 =>
        cases r3 with
        | nil => exact .cons q (.cons r .nil)
        | cons _ _ => exact .nil
  | cons _ _ =>
    cases r2 <;> exact .nil

/-! ### small facts of lists -/
theorem cut_none (xs : List V) (h : xs.length ≤ 63) : cutV xs none (some 63) = xs := by
  unfold cutV
  rw [HT.sIx_none, show HT.sIx xs.length xs.length (some 63) = min 63 xs.length from HT.sIx_nat xs.length xs.length 63]
  show List.take (min 63 xs.length - 0) (List.drop 0 xs) = xs
  rw [List.drop_zero, Nat.sub_zero, Nat.min_eq_right h, List.take_length]
theorem getmap {α β : Type} {f : α → β} {l : List α} {i : Nat} {y : β} (h : (l.map f)[i]? = some y) : ∃ x, l[i]? = some x ∧ f x = y := by
  rw [List.getElem?_map] at h
  cases e : l[i]? with
  | none =>
    rw [e] at h
    cases h
  | some x =>
    rw [e] at h
    exact ⟨x, rfl, Option.some.inj h⟩
theorem lt_of_get {α : Type} {l : List α} {i : Nat} {y : α} (h : l[i]? = some y) : i < l.length := (List.getElem?_eq_some_iff.mp h).1
theorem sline {n : Nat} (h : n ≤ 100000) : n ≤ sizeLine := Nat.le_trans h (by decide)
theorem slineL {n : Nat} (h : n < 100000) : n < sizeLine := Nat.lt_of_lt_of_le h (by decide)
theorem take_succ_map {α β : Type} {f : α → β} {l : List α} {i : Nat} {x : α} (h : l[i]? = some x) : ((l.take (i + 1)).map f) = (l.take i).map f ++ [f x] := by
  rw [List.take_add_one, h, List.map_append]
  rfl
theorem atI_of {xs : List V} {i : Int} {v : V} (h0 : 0 ≤ i) (h : xs[i.toNat]? = some v) : atI xs i = some v := by
  have e : i = ((i.toNat : Nat) : Int) := by omega
  rw [e]
  exact atI_nat h
end Th
namespace Th
def sgE (a b k : Nat) : Nat := (a + b * k % 26) % 26 + 26 * (k / 26)
theorem sgE_nodup : ∀ a, a < 26 → ∀ b ∈ [1, 3, 5, 7, 9, 11, 25], ((List.range 40).map (sgE a b)).Nodup := by decide +kernel
end Th
/-! texts and names -/
namespace Th
open PySem PySem.Spec PyProof.Rows L2
theorem nodup_at {α : Type} {l : List α} (h : l.Nodup) {i j : Nat} {x : α} (hi : l[i]? = some x) (hj : l[j]? = some x) : i = j := by
  obtain ⟨li, ei⟩ := List.getElem?_eq_some_iff.mp hi
  obtain ⟨lj, ej⟩ := List.getElem?_eq_some_iff.mp hj
  have q := List.pairwise_iff_getElem.mp h
  rcases Nat.lt_trichotomy i j with z | z | z
  · exact absurd (ei.trans ej.symm) (q i j li lj z)
  · exact z
  · exact absurd (ej.trans ei.symm) (q j i lj li z)
theorem nodup_sub {α : Type} [DecidableEq α] : ∀ {l m : List α}, l.Nodup → (∀ x ∈ l, x ∈ m) → l.length ≤ m.length
  | [], _, _, _ => Nat.zero_le _
  | x :: r, m, h, k => by
    obtain ⟨h1, h2⟩ := List.nodup_cons.mp h
    have hx := k x List.mem_cons_self
    have q : r.length ≤ (m.erase x).length := nodup_sub h2 fun y hy => by
      have ne : y ≠ x := fun e => h1 (e ▸ hy)
      exact (List.mem_erase_of_ne ne).mpr (k y (List.mem_cons_of_mem _ hy))
    rw [List.length_erase_of_mem hx] at q
    have p := List.length_pos_of_mem hx
    rw [List.length_cons]
    omega
def cs (x : Str) : List Nat := x.cps.toList
theorem cs_len (x : Str) : x.length = (cs x).length := (Array.length_toList).symm
theorem cs_inj {x y : Str} (h : cs x = cs y) : x = y := by
  cases x
  cases y
  exact congrArg Str.mk (Array.toList_inj.mp h)
theorem cs_app (x y : Str) : cs (x ++ y) = cs x ++ cs y := by
  show (x.cps ++ y.cps).toList = _
  rw [Array.toList_append]
  rfl
theorem cs_mk (l : List Nat) : cs ⟨l.toArray⟩ = l := rfl
theorem cs_join : ∀ ys : List Str, cs (Str.join Str.empty ys) = (ys.map cs).flatten
  | [] => rfl
  | [x] => by simp [Str.join]
  | x :: y :: r => by
    show cs (x ++ Str.empty ++ Str.join Str.empty (y :: r)) = _
    rw [cs_app, cs_app, cs_join (y :: r)]
    show cs x ++ [] ++ _ = _
    rw [List.append_nil]
    rfl
/-- the small letters -/
def abc : Str := "abcdefghijklmnopqrstuvwxyz"
theorem abc_len : (cs abc).length = 26 := by decide +kernel
theorem abc_nodup : (cs abc).Nodup := by decide +kernel
theorem abc_length : abc.length = 26 := by decide +kernel
/-- all signs are small letters -/
def Lw (x : Str) : Prop := ∀ c ∈ cs x, c ∈ cs abc
theorem Lw.app {x y : Str} (h : Lw x) (k : Lw y) : Lw (x ++ y) := fun c hc => by
  rw [cs_app] at hc
  rcases List.mem_append.mp hc with z | z
  · exact h c z
  · exact k c z
theorem Lw.sub {x y : Str} (h : Lw x) (k : ∀ c ∈ cs y, c ∈ cs x) : Lw y := fun c hc => h c (k c hc)
/-- a name -/
def isNm (x : Str) : Bool := decide (1 ≤ x.length) && decide (x.length ≤ 6) && (cs x).all fun c => decide (c ∈ cs abc)
theorem isNm_iff {x : Str} : isNm x = true ↔ 1 ≤ x.length ∧ x.length ≤ 6 ∧ Lw x := by
  unfold isNm
  rw [Bool.and_eq_true, Bool.and_eq_true, decide_eq_true_eq, decide_eq_true_eq, List.all_eq_true]
  constructor
  · rintro ⟨⟨a, b⟩, c⟩
    exact ⟨a, b, fun z hz => of_decide_eq_true (c z hz)⟩
  · rintro ⟨a, b, c⟩
    exact ⟨⟨a, b⟩, fun z hz => decide_eq_true (c z hz)⟩
theorem isNm_len {x : Str} (h : isNm x = true) : x.length ≤ 6 := (isNm_iff.mp h).2.1
/-- the k-th letter -/
def let_ (k : Nat) : Nat := (cs abc).getD k 0
theorem let_at {k : Nat} (h : k < 26) : (cs abc)[k]? = some (let_ k) := by
  have h' : k < (cs abc).length := by rw [abc_len]; exact h
  unfold let_
  rw [List.getD_eq_getElem?_getD, List.getElem?_eq_getElem h']
  rfl
theorem let_mem {k : Nat} (h : k < 26) : let_ k ∈ cs abc := List.mem_of_getElem? (let_at h)
theorem let_inj {i j : Nat} (hi : i < 26) (hj : j < 26) (h : let_ i = let_ j) : i = j := by
  have a := let_at hi
  have b := let_at hj
  rw [h] at a
  exact nodup_at abc_nodup a b
theorem atI_of' {xs : List Nat} {i : Int} {v : Nat} (h0 : 0 ≤ i) (h : xs[i.toNat]? = some v) : atI xs i = some v := by
  have e : i = ((i.toNat : Nat) : Int) := by omega
  rw [e]
  exact atI_nat h
theorem atI_let {k : Int} (h0 : 0 ≤ k) (h1 : k < 26) : atI abc.cps.toList k = some (let_ k.toNat) := atI_of' (xs := (cs abc)) h0 (let_at (by omega))
theorem sline_abc : abc.length ≤ sizeLine := by rw [abc_length]; decide
theorem sqh {K : PySem.W.Frag} {p q : Addr} {H : Hp} {xs : List V} (z : q ≠ p) (h : H q = some (.lst xs)) : SqL K (hid p H) q xs := .inl (.inl (by rw [hid_ne z]; exact h))
theorem sqhT {K : PySem.W.Frag} {p q : Addr} {H : Hp} {xs : List V} (z : q ≠ p) (h : H q = some (.tup xs)) : SqT K (hid p H) q xs := .inl (.inl (by rw [hid_ne z]; exact h))
theorem flatS (xs : List Str) : (xs.map V.str).all flatV = true := by
  rw [List.all_map, List.all_eq_true]
  exact fun _ _ => rfl
theorem inS (x : Str) (xs : List Str) : inV (.str x) (xs.map V.str) = decide (x ∈ xs) := by
  unfold inV
  rw [List.any_map, Bool.eq_iff_iff, List.any_eq_true, decide_eq_true_eq]
  constructor
  · rintro ⟨y, hy, e⟩
    have e' : y = x := beq_iff_eq.mp (show (y == x) = true from e)
    rw [← e']
    exact hy
  · intro hx
    exact ⟨x, hx, beq_self_eq_true x⟩
/-- len of a list or a tuple, by values -/
def rLn (K : PySem.W.Frag) : List V → Hp → VK → Prop := fun xs H Q => ∃ p ys, xs = [.ref p] ∧ (SqL K H p ys ∨ SqT K H p ys) ∧ Q (.int ys.length) H
theorem len_seqK {X : Cx} : CallR X (.builtin "len") (rLn X.K) := call_len_seq
theorem ixe (a b i : Nat) : ((a : Int) + ((b : Int) * ((0 : Int) + (i : Int))) % 26) % 26 = (((a + b * i % 26) % 26 : Nat) : Int) := by
  have e : (b : Int) * ((0 : Int) + (i : Int)) = ((b * i : Nat) : Int) := by rw [Int.zero_add, Int.natCast_mul]
  rw [e]
  omega
theorem stride_of {i : Nat} {v : V} (h : [V.int 1, .int 3, .int 5, .int 7, .int 9, .int 11, .int 25][i]? = some v) : ∃ b : Nat, b ∈ [1, 3, 5, 7, 9, 11, 25] ∧ b ≤ 25 ∧ v = .int (b : Int) := by
  have m := List.mem_of_getElem? h
  simp only [List.mem_cons, List.not_mem_nil, or_false] at m
  rcases m with e | e | e | e | e | e | e
  · exact ⟨1, by decide, by decide, e⟩
  · exact ⟨3, by decide, by decide, e⟩
  · exact ⟨5, by decide, by decide, e⟩
  · exact ⟨7, by decide, by decide, e⟩
  · exact ⟨9, by decide, by decide, e⟩
  · exact ⟨11, by decide, by decide, e⟩
  · exact ⟨25, by decide, by decide, e⟩
/-- the first letters of the signs -/
def sg1 (a b k : Nat) : Str := ⟨#[let_ ((a + b * k % 26) % 26)]⟩
theorem mapr {α : Type} (f : Nat → α) (n : Nat) : (List.range (n + 1)).map f = (List.range n).map f ++ [f n] := by
  rw [List.range_succ, List.map_append]
  rfl
theorem getr {α : Type} (f : Nat → α) {n k : Nat} (h : k < n) : ((List.range n).map f)[k]? = some (f k) := by
  rw [List.getElem?_map, List.getElem?_range h]
  rfl
def strV (v : V) : Str := match v with | .str x => x | _ => Str.empty
theorem perm_strs {ys : List V} {xs : List Str} (h : ys.Perm (xs.map V.str)) : ∃ zs : List Str, ys = zs.map V.str ∧ zs.Perm xs := by
  refine ⟨ys.map strV, ?_, ?_⟩
  · rw [List.map_map]
    refine (List.map_id ys).symm.trans (List.map_congr_left fun v hv => ?_)
    obtain ⟨x, _, rfl⟩ := List.mem_map.mp (h.mem_iff.mp hv)
    rfl
  · have q := h.map strV
    rw [List.map_map] at q
    have e : xs.map (strV ∘ V.str) = xs := (List.map_congr_left fun _ _ => rfl).trans (List.map_id xs)
    rw [e] at q
    exact q
theorem cut_to {n : Int} (xs : List V) (h : 0 ≤ n) : cutV xs none (some n) = xs.take n.toNat := by
  have e : n = ((n.toNat : Nat) : Int) := by omega
  unfold cutV
  rw [HT.sIx_none, e, HT.sIx_nat, List.drop_zero, Nat.sub_zero, Int.toNat_natCast, Nat.min_def]
  split
  · rfl
  · rw [List.take_length, List.take_of_length_le (by omega)]
/-! slices of texts -/
theorem cs_cut (z : Str) (lo hi : Option Int) : cs (cutS z lo hi) = ((cs z).drop (HT.sIx z.length 0 lo)).take (HT.sIx z.length z.length hi - HT.sIx z.length 0 lo) := rfl
theorem cs_cut_to (z : Str) (n : Int) (h : 0 ≤ n) : cs (cutS z none (some n)) = (cs z).take n.toNat := by
  have e : n = ((n.toNat : Nat) : Int) := by omega
  rw [cs_cut, HT.sIx_none, e, HT.sIx_nat, List.drop_zero, Nat.sub_zero, Int.toNat_natCast, Nat.min_def]
  split
  · rfl
  · rename_i hn
    rw [cs_len, List.take_length, List.take_of_length_le (by rw [← cs_len]; omega)]
theorem cs_cut_from (z : Str) (n : Int) (h : 0 ≤ n) (h2 : n ≤ z.length) : cs (cutS z (some n) none) = (cs z).drop n.toNat := by
  have e : n = ((n.toNat : Nat) : Int) := by omega
  rw [cs_cut, HT.sIx_none, e, HT.sIx_nat, Int.toNat_natCast, Nat.min_eq_left (by omega)]
  rw [cs_len, ← List.length_drop, List.take_length]
/-! the signs of names: the letter at (first + stride * k % 26) % 26, and a second one from 26 on -/
def sgn (a b : Nat) (k : Nat) : Str := ⟨#[let_ ((a + b * k % 26) % 26)]⟩ ++ (if k < 26 then Str.empty else ⟨#[let_ (k / 26)]⟩)
theorem sgn_cs (a b k : Nat) : cs (sgn a b k) = let_ ((a + b * k % 26) % 26) :: (if k < 26 then [] else [let_ (k / 26)]) := by
  unfold sgn
  rw [cs_app]
  split <;> rfl
theorem sgn_len (a b k : Nat) : (sgn a b k).length = if k < 26 then 1 else 2 := by
  rw [cs_len, sgn_cs]
  split <;> rfl
theorem sgn_lw (a b : Nat) {k : Nat} (h : k < 40) : Lw (sgn a b k) := by
  intro c hc
  rw [sgn_cs] at hc
  rcases List.mem_cons.mp hc with z | z
  · rw [z]
    exact let_mem (Nat.mod_lt _ (by decide))
  · split at z
    · cases z
    · rw [List.mem_singleton.mp z]
      exact let_mem (by omega)
theorem sgn_inj {a b i j : Nat} (ha : a < 26) (hb : b ∈ [1, 3, 5, 7, 9, 11, 25]) (hi : i < 40) (hj : j < 40) (h : sgn a b i = sgn a b j) : i = j := by
  have e : sgE a b i = sgE a b j := by
    have q := congrArg cs h
    rw [sgn_cs, sgn_cs] at q
    injection q with q1 q2
    have q3 := let_inj (Nat.mod_lt _ (by decide)) (Nat.mod_lt _ (by decide)) q1
    unfold sgE
    rw [q3]
    have q4 : i / 26 = j / 26 := by
      by_cases h1 : i < 26
      · by_cases h2 : j < 26
        · omega
        · rw [if_pos h1, if_neg h2] at q2
          cases q2
      · by_cases h2 : j < 26
        · rw [if_neg h1, if_pos h2] at q2
          cases q2
        · rw [if_neg h1, if_neg h2] at q2
          injection q2 with q5
          exact let_inj (by omega) (by omega) q5
    rw [q4]
  have nd := sgE_nodup a ha b hb
  have g1 : ((List.range 40).map (sgE a b))[i]? = some (sgE a b i) := by
    rw [List.getElem?_map, List.getElem?_range hi]
    rfl
  have g2 : ((List.range 40).map (sgE a b))[j]? = some (sgE a b j) := by
    rw [List.getElem?_map, List.getElem?_range hj]
    rfl
  rw [e] at g1
  exact nodup_at nd g1 g2
def sgns (a b n : Nat) : List Str := (List.range n).map (sgn a b)
theorem sgns_nodup {a b n : Nat} (ha : a < 26) (hb : b ∈ [1, 3, 5, 7, 9, 11, 25]) (hn : n ≤ 40) : (sgns a b n).Nodup := by
  unfold sgns
  rw [List.Nodup, List.pairwise_map]
  refine List.Pairwise.imp_of_mem ?_ List.nodup_range
  intro i j hi hj hne e
  exact hne (sgn_inj ha hb (by have := List.mem_range.mp hi; omega) (by have := List.mem_range.mp hj; omega) e)
theorem sgns_len (a b n : Nat) : (sgns a b n).length = n := by
  unfold sgns
  rw [List.length_map, List.length_range]
theorem sgns_mem {a b n : Nat} {x : Str} (hn : n ≤ 40) (h : x ∈ sgns a b n) : 1 ≤ x.length ∧ x.length ≤ 2 ∧ Lw x := by
  obtain ⟨k, hk, rfl⟩ := List.mem_map.mp h
  have hk' : k < n := List.mem_range.mp hk
  rw [sgn_len]
  refine ⟨?_, ?_, sgn_lw a b (by omega)⟩
  · split <;> omega
  · split <;> omega
/-- the words that stand in texts too -/
def kno : List Str := ["find", "finds", "word", "fact", "before", "first", "last", "lot", "never", "all", "rest", "self"]
theorem kno_nodup : kno.Nodup := by decide +kernel
theorem kno_ok : ∀ x ∈ kno, isNm x = true ∧ 3 ≤ x.length := by decide +kernel
theorem kno_len : kno.length = 12 := rfl
/-- names: each once -/
def Nms (xs : List Str) : Prop := xs.Nodup ∧ ∀ x ∈ xs, isNm x = true
theorem nms_known {ys : List Str} {a b n : Nat} (ha : a < 26) (hb : b ∈ [1, 3, 5, 7, 9, 11, 25]) (hn : n ≤ 40) (h : ys.Perm kno) (m : Nat) : Nms ((ys ++ sgns a b n).take m) := by
  have nd : (ys ++ sgns a b n).Nodup := by
    rw [List.nodup_append]
    refine ⟨h.nodup_iff.mpr kno_nodup, sgns_nodup ha hb hn, fun x hx y hy e => ?_⟩
    have q1 := (kno_ok x (h.mem_iff.mp hx)).2
    have q2 := (sgns_mem hn hy).2.1
    rw [e] at q1
    omega
  refine ⟨nd.sublist (List.take_sublist _ _), fun x hx => ?_⟩
  rcases List.mem_append.mp (List.mem_of_mem_take hx) with z | z
  · exact (kno_ok x (h.mem_iff.mp z)).1
  · obtain ⟨q1, q2, q3⟩ := sgns_mem hn z
    exact isNm_iff.mpr ⟨q1, by omega, q3⟩
/-- names by a stem around a sign -/
def stm (w : Str) (i : Nat) (s : Str) : Str := ⟨((cs w).take i).toArray⟩ ++ s ++ ⟨((cs w).drop i).toArray⟩
theorem stm_cs (w : Str) (i : Nat) (s : Str) : cs (stm w i s) = (cs w).take i ++ cs s ++ (cs w).drop i := by
  unfold stm
  rw [cs_app, cs_app]
  rfl
theorem stm_eq {w s : Str} {i : Int} (h0 : 0 ≤ i) (h1 : i ≤ w.length) : cutS w none (some i) ++ s ++ cutS w (some i) none = stm w i.toNat s := by
  refine cs_inj ?_
  rw [cs_app, cs_app, cs_cut_to _ _ h0, cs_cut_from _ _ h0 h1, stm_cs]
theorem nms_stem {w : Str} {i a b n : Nat} (hw : Lw w) (hl : w.length ≤ 4) (ha : a < 26) (hb : b ∈ [1, 3, 5, 7, 9, 11, 25]) (hn : n ≤ 40) : Nms ((sgns a b n).map (stm w i)) := by
  refine ⟨?_, fun x hx => ?_⟩
  · rw [List.Nodup, List.pairwise_map]
    refine List.Pairwise.imp ?_ (sgns_nodup ha hb hn)
    intro x y hne e
    have q := congrArg cs e
    rw [stm_cs, stm_cs] at q
    exact hne (cs_inj (List.append_cancel_left (List.append_cancel_right q)))
  · obtain ⟨s, hs, rfl⟩ := List.mem_map.mp hx
    obtain ⟨q1, q2, q3⟩ := sgns_mem hn hs
    rw [cs_len] at q1 q2 hl
    refine isNm_iff.mpr ⟨?_, ?_, fun c hc => ?_⟩
    · rw [cs_len, stm_cs, List.length_append, List.length_append]; omega
    · rw [cs_len, stm_cs, List.length_append, List.length_append, List.length_take, List.length_drop]; omega
    · rw [stm_cs] at hc
      rcases List.mem_append.mp hc with z | z
      · rcases List.mem_append.mp z with z | z
        · exact hw c (List.mem_of_mem_take z)
        · exact q3 c z
      · exact hw c (List.mem_of_mem_drop z)
theorem nm_word {x : Str} (h : Lw x) (h1 : 1 ≤ x.length) (h2 : (x.length : Int) ≤ 6) : isNm x = true := isNm_iff.mpr ⟨h1, by omega, h⟩
theorem nm_long {x y : Str} (h : isNm x = true) (k : Lw y) : isNm (cutS (x ++ y) none (some 6)) = true := by
  obtain ⟨h1, h2, h3⟩ := isNm_iff.mp h
  have e : cs (cutS (x ++ y) none (some 6)) = (cs (x ++ y)).take 6 := cs_cut_to _ 6 (by decide)
  rw [cs_len] at h1
  refine isNm_iff.mpr ⟨?_, ?_, fun c hc => ?_⟩
  · rw [cs_len, e, List.length_take, cs_app, List.length_append]
    omega
  · rw [cs_len, e, List.length_take]
    omega
  · rw [e] at hc
    exact h3.app k c (List.mem_of_mem_take hc)
/-- one name more -/
theorem Nms.snoc {xs : List Str} {x : Str} (h : Nms xs) (hx : isNm x = true) (n : x ∉ xs) : Nms (xs ++ [x]) := by
  refine ⟨?_, fun y hy => ?_⟩
  · rw [List.nodup_append]
    exact ⟨h.1, List.pairwise_singleton _ _, fun a ha b hb e => n (by rw [← List.mem_singleton.mp hb, ← e]; exact ha)⟩
  · rcases List.mem_append.mp hy with z | z
    · exact h.2 y z
    · rw [List.mem_singleton.mp z]
      exact hx
/-- a sign is left while there are fewer names than signs -/
theorem spare_left {xs ss : List Str} (h : ss.Nodup) (hl : xs.length < ss.length) : ∃ s r, ss.filter (fun s => !decide (s ∈ xs)) = s :: r := by
  cases e : ss.filter (fun s => !decide (s ∈ xs)) with
  | cons s r => exact ⟨s, r, rfl⟩
  | nil =>
    exfalso
    have all : ∀ s ∈ ss, s ∈ xs := fun s hs => by
      have q := List.filter_eq_nil_iff.mp e s hs
      simpa using q
    have sub := nodup_sub h all
    omega
end Th
/-! data that is written in the text, and data judged -/
namespace Th
open PySem PySem.Spec PyProof.Rows L2
def Lit (K : PySem.W.Frag) (t : TE) (d : PyData) : Prop := ∀ (D : DS) (σ : L2.St) (H : Hp) (Q : VK), Drw D H → (∀ v H', Go D H H' → Da K (hid D.p H') v d → Q v H') → t σ H Q
def LitA (K : PySem.W.Frag) (t : TA) (ds : List PyData) : Prop := ∀ (D : DS) (σ : L2.St) (H : Hp) (Q : List V → Hp → Prop), Drw D H → (∀ vs H', Go D H H' → DaAll K (hid D.p H') vs ds → Q vs H') → t σ H Q
section
variable {K : PySem.W.Frag}
theorem lit_non : Lit K (tC .non) .none := fun D σ H Q d q => q _ H (.refl d) .non
theorem lit_bl (b : Bool) : Lit K (tC (.bl b)) (.bool b) := fun D σ H Q d q => q _ H (.refl d) (.bl b)
theorem lit_int (i : Int) : Lit K (tC (.int i)) (.int i) := fun D σ H Q d q => q _ H (.refl d) (.int i)
theorem lit_neg (i : Int) : Lit K (tUn (rU fun i => .int (-i)) (tC (.int i))) (.int (-i)) := fun D σ H Q d q => ⟨i, rfl, q _ H (.refl d) (.int (-i))⟩
theorem lit_str (x : Str) : Lit K (tC (.str x)) (.str x) := fun D σ H Q d q => q _ H (.refl d) (.str x)
theorem lita_nil : LitA K tNil [] := fun D σ H Q d q => q _ H (.refl d) .nil
theorem lita_cons {t : TE} {d : PyData} {ta : TA} {ds : List PyData} (h : Lit K t d) (r : LitA K ta ds) : LitA K (tCons t ta) (d :: ds) := fun D σ H Q dr q =>
  h D σ H _ dr fun v H1 g1 h1 => r D σ H1 _ g1.st fun vs H2 g2 h2 => q _ H2 (g1.trans g2) (.cons (h1.to g2.sm) h2)
theorem lit_tup {ta : TA} {ds : List PyData} (h : LitA K ta ds) (hl : ds.length ≤ 100000) : Lit K (tTup ta) (.tuple ds) := fun D σ H Q dr q =>
  h D σ H _ dr fun vs H1 g1 h1 => ⟨sline (by rw [h1.len]; exact hl), fun p np => by
    have z := g1.st.ne_new np
    have g2 := g1.new (o := .tup vs) np
    refine q _ _ g2 (Da.newT (by rw [hid_ne z]; exact upd_same) (h1.to (Go.of g1.st (same_new np)).sm))⟩
theorem lit_lst {ta : TA} {ds : List PyData} (h : LitA K ta ds) (hl : ds.length ≤ 100000) : Lit K (tLst ta) (.list ds) := fun D σ H Q dr q =>
  h D σ H _ dr fun vs H1 g1 h1 => ⟨sline (by rw [h1.len]; exact hl), fun p np => by
    have z := g1.st.ne_new np
    have g2 := g1.new (o := .lst vs) np
    refine q _ _ g2 (Da.newL (by rw [hid_ne z]; exact upd_same) (h1.to (Go.of g1.st (same_new np)).sm))⟩
/-- the datum that an expression of constants, tuples and lists writes -/
def litE : Nat → Expr → Option PyData
  | _, .Constant .none _ _ => some .none
  | _, .Constant (.bool b) _ _ => some (.bool b)
  | _, .Constant (.int i) _ _ => some (.int i)
  | _, .Constant (.str x) _ _ => some (.str x)
  | _, .UnaryOp .USub (.Constant (.int i) _ _) _ => some (.int (-i))
  | n + 1, .Tuple es _ _ => (litEs (litE n) es).bind fun ds => if ds.length ≤ 1000 then some (.tuple ds) else none
  | n + 1, .List es _ => (litEs (litE n) es).bind fun ds => if ds.length ≤ 1000 then some (.list ds) else none
  | _, _ => none
where litEs (f : Expr → Option PyData) : List Expr → Option (List PyData)
  | [] => some []
  | e :: es => (f e).bind fun d => (litEs f es).map (d :: ·)
def NoStar (X : Cx) (e : Expr) : Prop := ∀ es, starEach (e :: es) X.env = (false, eval e X.env) :: starEach es X.env
theorem litEs_ok {X : Cx} {f : Expr → Option PyData} (hf : ∀ e d, f e = some d → ∃ t, PE X e t ∧ Lit K t d ∧ NoStar X e) : ∀ (es : List Expr) (ds : List PyData), litE.litEs f es = some ds → ∃ t, PA X es t ∧ LitA K t ds
  | [], ds, h => by
    cases h
    exact ⟨_, pa_nil, lita_nil⟩
  | e :: es, ds, h => by
    unfold litE.litEs at h
    cases h1 : f e with
    | none =>
      rw [h1] at h
      cases h
    | some d =>
      rw [h1] at h
      cases h2 : litE.litEs f es with
      | none =>
        rw [h2] at h
        cases h
      | some r =>
        rw [h2] at h
        cases h
        obtain ⟨t, a1, a2, a3⟩ := hf e d h1
        obtain ⟨u, b1, b2⟩ := litEs_ok hf es r h2
        exact ⟨_, pa_cons a1 b1 (a3 es), lita_cons a2 b2⟩
theorem litE_ok {X : Cx} : ∀ (n : Nat) (e : Expr) (d : PyData), litE n e = some d → ∃ t, PE X e t ∧ Lit K t d ∧ NoStar X e := by
  intro n
  induction n with
  | zero =>
    intro e d h
    unfold litE at h
    split at h
    · cases h; exact ⟨_, pe_non, lit_non, fun _ => rfl⟩
    · cases h; exact ⟨_, pe_bl, lit_bl _, fun _ => rfl⟩
    · cases h; exact ⟨_, pe_int, lit_int _, fun _ => rfl⟩
    · cases h; exact ⟨_, pe_str, lit_str _, fun _ => rfl⟩
    · cases h; exact ⟨_, pe_un un_neg pe_int, lit_neg _, fun _ => rfl⟩
    all_goals first | (exfalso; omega) | cases h
  | succ n ih =>
    intro e d h
    unfold litE at h
    split at h
    · cases h; exact ⟨_, pe_non, lit_non, fun _ => rfl⟩
    · cases h; exact ⟨_, pe_bl, lit_bl _, fun _ => rfl⟩
    · cases h; exact ⟨_, pe_int, lit_int _, fun _ => rfl⟩
    · cases h; exact ⟨_, pe_str, lit_str _, fun _ => rfl⟩
    · cases h; exact ⟨_, pe_un un_neg pe_int, lit_neg _, fun _ => rfl⟩
    · rename_i m es x1 p he
      obtain rfl := Nat.succ.inj he
      cases h1 : litE.litEs (litE n) es with
      | none => rw [h1] at h; cases h
      | some ds =>
        rw [h1] at h
        simp only [Option.bind_some] at h
        split at h
        · cases h
          obtain ⟨t, b1, b2⟩ := litEs_ok ih es ds h1
          exact ⟨_, pe_tup b1, lit_tup b2 (by omega), fun _ => rfl⟩
        · cases h
    · rename_i m es p he
      obtain rfl := Nat.succ.inj he
      cases h1 : litE.litEs (litE n) es with
      | none => rw [h1] at h; cases h
      | some ds =>
        rw [h1] at h
        simp only [Option.bind_some] at h
        split at h
        · cases h
          obtain ⟨t, b1, b2⟩ := litEs_ok ih es ds h1
          exact ⟨_, pe_lst b1, lit_lst b2 (by omega), fun _ => rfl⟩
        · cases h
    · cases h
/-- what a list of data holds -/
theorem Da.inL {H : Hp} {p : Addr} {ds : List PyData} (h : Da K H (.ref p) (.list ds)) : ∃ xs, SqL K H p xs ∧ DaAll K H xs ds := by
  cases h with
  | lst hs _ ha => exact ⟨_, hs, ha⟩
theorem Da.inT {H : Hp} {p : Addr} {ds : List PyData} (h : Da K H (.ref p) (.tuple ds)) : ∃ xs, SqT K H p xs ∧ DaAll K H xs ds := by
  cases h with
  | tup hs _ ha => exact ⟨_, hs, ha⟩
end
theorem kit_lt {K : PySem.W.Frag} (d : PyData) (h : tyD d ≠ "dict") : PySem.W.kitAny K (.type (tyD d)) [.type "list", .type "tuple"] = some (decide (tyD d = "list" ∨ tyD d = "tuple")) := by
  by_cases e1 : tyD d = "list"
  · refine kitAny_cons (kit_ty (kit_list d h)) (fun z => ?_) (fun _ => ?_)
    · rw [decide_eq_true e1] at z
      cases z
    · exact decide_eq_true (.inl e1)
  · refine kitAny_cons (kit_ty (kit_list d h)) (fun _ => ?_) (fun z => absurd (of_decide_eq_true z) e1)
    refine kitAny_cons (kit_ty (kit_tuple d h)) (fun z => ?_) (fun z => decide_eq_true (.inr (of_decide_eq_true z)))
    rw [kitAny_nil, decide_eq_false]
    rintro (q | q)
    · exact e1 q
    · exact of_decide_eq_false z q
/-- depth below n, sizes small -/
def Lv : Nat → PyData → Prop
  | _, .none => True
  | _, .bool _ => True
  | _, .int _ => True
  | _, .str x => x.length ≤ 100000 ∧ PyData.strOk x = true
  | 0, .list _ => False
  | 0, .tuple _ => False
  | n + 1, .list xs => xs.length ≤ 60 ∧ ∀ x ∈ xs, Lv n x
  | n + 1, .tuple xs => xs.length ≤ 60 ∧ ∀ x ∈ xs, Lv n x
  | _, .dict _ => False
def lvB : Nat → PyData → Bool
  | _, .none => true
  | _, .bool _ => true
  | _, .int _ => true
  | _, .str x => decide (x.length ≤ 100000) && PyData.strOk x
  | 0, .list _ => false
  | 0, .tuple _ => false
  | n + 1, .list xs => decide (xs.length ≤ 60) && xs.all (lvB n)
  | n + 1, .tuple xs => decide (xs.length ≤ 60) && xs.all (lvB n)
  | _, .dict _ => false
theorem lv_of : ∀ (n : Nat) (d : PyData), lvB n d = true → Lv n d
  | 0, .none, _ => trivial
  | 0, .bool _, _ => trivial
  | 0, .int _, _ => trivial
  | 0, .str x, h => by
    obtain ⟨a, b⟩ := Bool.and_eq_true_iff.mp h
    exact ⟨of_decide_eq_true a, b⟩
  | 0, .list _, h => nomatch h
  | 0, .tuple _, h => nomatch h
  | 0, .dict _, h => nomatch h
  | n + 1, .none, _ => trivial
  | n + 1, .bool _, _ => trivial
  | n + 1, .int _, _ => trivial
  | n + 1, .str x, h => by
    obtain ⟨a, b⟩ := Bool.and_eq_true_iff.mp h
    exact ⟨of_decide_eq_true a, b⟩
  | n + 1, .list xs, h => by
    obtain ⟨a, b⟩ := Bool.and_eq_true_iff.mp h
    exact ⟨of_decide_eq_true a, fun x hx => lv_of n x (List.all_eq_true.mp b x hx)⟩
  | n + 1, .tuple xs, h => by
    obtain ⟨a, b⟩ := Bool.and_eq_true_iff.mp h
    exact ⟨of_decide_eq_true a, fun x hx => lv_of n x (List.all_eq_true.mp b x hx)⟩
  | n + 1, .dict _, h => nomatch h
theorem Lv.up : ∀ (n : Nat) (d : PyData), Lv n d → Lv (n + 1) d
  | 0, .none, _ => trivial
  | 0, .bool _, _ => trivial
  | 0, .int _, _ => trivial
  | 0, .str x, h => h
  | 0, .list _, h => h.elim
  | 0, .tuple _, h => h.elim
  | 0, .dict _, h => h.elim
  | n + 1, .none, _ => trivial
  | n + 1, .bool _, _ => trivial
  | n + 1, .int _, _ => trivial
  | n + 1, .str x, h => h
  | n + 1, .list xs, h => ⟨h.1, fun x hx => Lv.up n x (h.2 x hx)⟩
  | n + 1, .tuple xs, h => ⟨h.1, fun x hx => Lv.up n x (h.2 x hx)⟩
  | n + 1, .dict _, h => h.elim
mutual
theorem Lv.shape : ∀ (n : Nat) (d : PyData), Lv n d → d.canLay0 = true ∧ d.depth ≤ n
  | 0, .none, _ => ⟨by simp only [PyData.canLay0], by simp [PyData.depth]⟩
  | 0, .bool _, _ => ⟨by simp only [PyData.canLay0], by simp [PyData.depth]⟩
  | 0, .int _, _ => ⟨by simp only [PyData.canLay0], by simp [PyData.depth]⟩
  | 0, .str x, h => ⟨by simp only [PyData.canLay0]; exact h.2, by simp [PyData.depth]⟩
  | 0, .list _, h => h.elim
  | 0, .tuple _, h => h.elim
  | 0, .dict _, h => h.elim
  | n + 1, .none, _ => ⟨by simp only [PyData.canLay0], by simp [PyData.depth]⟩
  | n + 1, .bool _, _ => ⟨by simp only [PyData.canLay0], by simp [PyData.depth]⟩
  | n + 1, .int _, _ => ⟨by simp only [PyData.canLay0], by simp [PyData.depth]⟩
  | n + 1, .str x, h => ⟨by simp only [PyData.canLay0]; exact h.2, by simp [PyData.depth]⟩
  | n + 1, .list xs, h => by
    obtain ⟨a, b⟩ := Lv.shapes n xs h.2
    exact ⟨by simp only [PyData.canLay0]; exact a, by simp only [PyData.depth]; omega⟩
  | n + 1, .tuple xs, h => by
    obtain ⟨a, b⟩ := Lv.shapes n xs h.2
    exact ⟨by simp only [PyData.canLay0]; exact a, by simp only [PyData.depth]; omega⟩
  | n + 1, .dict _, h => h.elim
theorem Lv.shapes : ∀ (n : Nat) (xs : List PyData), (∀ x ∈ xs, Lv n x) → PyData.canLayAll0 xs = true ∧ PyData.depthAll xs ≤ n
  | n, [], _ => ⟨by simp only [PyData.canLayAll0], by simp [PyData.depthAll]⟩
  | n, x :: xs, h => by
    obtain ⟨a, b⟩ := Lv.shape n x (h x List.mem_cons_self)
    obtain ⟨c, e⟩ := Lv.shapes n xs fun y hy => h y (List.mem_cons_of_mem _ hy)
    exact ⟨by simp only [PyData.canLayAll0, a, c, Bool.and_self], by simp only [PyData.depthAll]; omega⟩
end
theorem Lv.shaped {n : Nat} {d : PyData} (h : Lv n d) (hn : n ≤ 64) : SeqAt.shaped d = true := by
  obtain ⟨a, b⟩ := Lv.shape n d h
  unfold SeqAt.shaped
  rw [a, decide_eq_true (by omega)]
  rfl
theorem strOk_lw {x : Str} (h : Lw x) : PyData.strOk x = true := by
  unfold PyData.strOk
  rw [Array.all_eq_true']
  intro c hc
  have q := h c (by unfold cs; exact Array.mem_toList_iff.mpr hc)
  have all : ∀ c ∈ cs abc, c < 0x110000 := by decide +kernel
  exact decide_eq_true (all c q)
theorem lv_nm {n : Nat} {x : Str} (h : isNm x = true) : Lv n (.str x) := by
  obtain ⟨h1, h2, h3⟩ := isNm_iff.mp h
  have q : x.length ≤ 100000 ∧ PyData.strOk x = true := ⟨by omega, strOk_lw h3⟩
  cases n <;> exact q
/-- a datum is a name -/
def nmD : PyData → Bool
  | .str x => isNm x
  | _ => false
/-- data that comes now and then -/
def odds : List PyData := [.none, .bool true, .bool false, .int 0, .int 1, .int (-1), .int 30, .int 999999999, .str "", .str "a", .str "A", .str "ab1", .str "abcdefg", .str "a b", .str "a\n", .str "{", .tuple [], .list [], .tuple [.str "a"], .list [.str "a"],
  .tuple [.str "b", .str "a"], .tuple [.str "a", .str "a"], .tuple [.str "a", .int 1], .tuple [.none], .tuple [.bool true], .tuple [.tuple [.str "a"]], .list [.list [.str "a"]], .tuple [.str "a", .list [.str "a"]], .tuple [.str "a", .str ""], .tuple [.str "a", .str "B"],
  .list [.str "a", .tuple [.str "a"]], .tuple [.str "a", .tuple [.str "b", .str "a"]], .tuple [.str "a", .tuple []], .tuple [.str "a", .list []], .tuple [.int 1, .tuple [.str "a"]]]
theorem odds_lv : ∀ d ∈ odds, Lv 2 d := by
  have h : odds.all (lvB 2) = true := by decide +kernel
  exact fun d hd => lv_of 2 d (List.all_eq_true.mp h d hd)
/-- one deeper -/
def LvN : Nat → PyData → Prop
  | 0, _ => False
  | n + 1, d => Lv n d
theorem lvn_list {n : Nat} {xs : List PyData} (h : Lv n (.list xs)) : xs.length ≤ 60 ∧ ∀ x ∈ xs, LvN n x := by
  cases n with
  | zero => exact h.elim
  | succ n => exact h
theorem lvn_tuple {n : Nat} {xs : List PyData} (h : Lv n (.tuple xs)) : xs.length ≤ 60 ∧ ∀ x ∈ xs, LvN n x := by
  cases n with
  | zero => exact h.elim
  | succ n => exact h
theorem da_two {K : PySem.W.Frag} {H : Hp} {v u : V} {d : PyData} {k : Nat} (hv : Da K H v d) (hu : Da K H u d) (h : tyD d = "list" ∨ tyD d = "tuple") (lv : Lv k d) :
    ∃ p r xs ys ds, v = .ref p ∧ u = .ref r ∧ (SqL K H p xs ∨ SqT K H p xs) ∧ (SqL K H r ys ∨ SqT K H r ys) ∧ DaAll K H xs ds ∧ DaAll K H ys ds ∧ ds.length ≤ 60 ∧ ∀ x ∈ ds, LvN k x := by
  cases d with
  | list ds =>
    cases hv with
    | lst h1 _ h2 =>
      cases hu with
      | lst g1 _ g2 => exact ⟨_, _, _, _, ds, rfl, rfl, .inl h1, .inl g1, h2, g2, (lvn_list lv).1, (lvn_list lv).2⟩
  | tuple ds =>
    cases hv with
    | tup h1 _ h2 =>
      cases hu with
      | tup g1 _ g2 => exact ⟨_, _, _, _, ds, rfl, rfl, .inr h1, .inr g1, h2, g2, (lvn_tuple lv).1, (lvn_tuple lv).2⟩
  | none => rcases h with h | h <;> exact absurd h (by decide)
  | bool b => rcases h with h | h <;> exact absurd (show ("bool" : String) = _ from h) (by decide)
  | int b => rcases h with h | h <;> exact absurd (show ("int" : String) = _ from h) (by decide)
  | str b => rcases h with h | h <;> exact absurd (show ("str" : String) = _ from h) (by decide)
  | dict b => cases hv
theorem ix_any {K : PySem.W.Frag} {H : Hp} {p : Addr} {xs : List V} {i : Nat} {v : V} {Q : VK} (h : SqL K H p xs ∨ SqT K H p xs) (e : xs[i]? = some v) (q : Q v H) : rIx K (.ref p) (.int ((0 : Int) + (i : Int))) H Q := by
  have a : atI xs ((0 : Int) + (i : Int)) = some v := by
    rw [Int.zero_add]
    exact atI_nat e
  rcases h with h | h
  · exact .inl ⟨p, xs, _, v, rfl, rfl, h, a, q⟩
  · exact .inr (.inl ⟨p, xs, _, v, rfl, rfl, h, a, q⟩)
theorem sq_any {K : PySem.W.Frag} {H H' : Hp} {p : Addr} {xs : List V} (s : Same H H') (h : SqL K H p xs ∨ SqT K H p xs) : SqL K H' p xs ∨ SqT K H' p xs := h.imp s.seq (same_t s)
/-- a judge of one datum, that changes nothing -/
def spJ (K : PySem.W.Frag) (n : Nat) (j : PyData → Bool) : Sp := fun vs H Q _ => ∃ (v : V) (d : PyData), vs = [v] ∧ Da K H v d ∧ Lv n d ∧ ∀ H', Same H H' → Q (.bl (j d)) H'
end Th
/-! texts in order, lots, statements -/
namespace Th
open PySem PySem.Spec PyProof.Rows L2
/-- x stands behind y or is y -/
def leS (x y : Str) : Prop := ¬ cs y < cs x
theorem ltCps_iff (x y : Str) : ltCps x.cps.toList y.cps.toList = decide (cs x < cs y) := by
  first | rfl | (rw [ltCps_eq]; rfl) | exact ltCps_eq ..
theorem rising_pair : ∀ (r : List Str) (p : Str), risingS p r = true → (p :: r).Pairwise leS
  | [], p, _ => List.pairwise_singleton _ _
  | x :: r, p, h => by
    have h' : (!ltCps x.cps.toList p.cps.toList && risingS x r) = true := h
    obtain ⟨a, b⟩ := Bool.and_eq_true_iff.mp h'
    have a' : leS p x := by
      rw [ltCps_iff] at a
      intro z
      rw [decide_eq_true z] at a
      cases a
    have ih := rising_pair r x b
    refine List.pairwise_cons.mpr ⟨fun y hy => ?_, ih⟩
    rcases List.mem_cons.mp hy with e | hy
    · rw [e]; exact a'
    · have q := (List.pairwise_cons.mp ih).1 y hy
      intro z
      have t1 := Std.lt_of_lt_of_le z (Std.not_lt.mp a')
      exact q t1
theorem sorted_pair {l : List Str} (h : sortedS l = true) : l.Pairwise leS := by
  cases l with
  | nil => exact List.Pairwise.nil
  | cons x r => exact rising_pair r x h
theorem leS_anti {x y : Str} (a : leS x y) (b : leS y x) : x = y := cs_inj (Std.le_antisymm (Std.not_lt.mp a) (Std.not_lt.mp b))
/-- one list in order has these members -/
theorem sorted_one : ∀ {l m : List Str}, l.Perm m → l.Pairwise leS → m.Pairwise leS → l = m
  | [], m, p, _, _ => (List.nil_perm.mp p).symm
  | x :: l, [], p, _, _ => (List.perm_nil.mp p)
  | x :: l, y :: m, p, h, k => by
    obtain ⟨h1, h2⟩ := List.pairwise_cons.mp h
    obtain ⟨k1, k2⟩ := List.pairwise_cons.mp k
    have e : x = y := by
      rcases List.mem_cons.mp (p.mem_iff.mp (List.mem_cons_self (a := x) (l := l))) with e | hx
      · exact e
      · rcases List.mem_cons.mp (p.mem_iff.mpr (List.mem_cons_self (a := y) (l := m))) with e | hy
        · exact e.symm
        · exact leS_anti (h1 y hy) (k1 x hx)
    subst e
    rw [sorted_one (List.perm_cons _ |>.mp p) h2 k2]
/-- each below the next -/
def risB : List Str → Bool
  | x :: y :: r => decide (cs x < cs y) && risB (y :: r)
  | _ => true
theorem ris_pair : ∀ {l : List Str}, risB l = true → l.Pairwise (fun x y => cs x < cs y)
  | [], _ => List.Pairwise.nil
  | [x], _ => List.pairwise_singleton _ _
  | x :: y :: r, h => by
    obtain ⟨a, b⟩ := Bool.and_eq_true_iff.mp (show (decide (cs x < cs y) && risB (y :: r)) = true from h)
    have ih := ris_pair b
    have a' := of_decide_eq_true a
    refine List.pairwise_cons.mpr ⟨fun z hz => ?_, ih⟩
    rcases List.mem_cons.mp hz with e | hz
    · rw [e]; exact a'
    · exact Std.lt_trans a' ((List.pairwise_cons.mp ih).1 z hz)
theorem pair_ris : ∀ {l : List Str}, l.Pairwise (fun x y => cs x < cs y) → risB l = true
  | [], _ => rfl
  | [x], _ => rfl
  | x :: y :: r, h => by
    obtain ⟨h1, h2⟩ := List.pairwise_cons.mp h
    show (decide (cs x < cs y) && risB (y :: r)) = true
    rw [decide_eq_true (h1 y List.mem_cons_self), pair_ris h2]
    rfl
theorem ris_nodup {l : List Str} (h : risB l = true) : l.Nodup := (ris_pair h).imp fun {x y} a e => by
  rw [e] at a
  exact Std.lt_irrefl a
theorem ris_le {l : List Str} (h : risB l = true) : l.Pairwise leS := (ris_pair h).imp fun {x y} a z => Std.lt_irrefl (Std.lt_trans a z)
theorem once_perm {xs : List Str} (h : xs.Nodup) : (once [] xs).Perm xs := by
  refine (List.perm_ext_iff_of_nodup (once_nodup xs [] List.nodup_nil) h).mpr fun y => ?_
  rw [once_mem]
  simp
/-- the texts in order, each once, are the texts themselves exactly if each is below the next -/
theorem lot_iff {xs ys : List Str} (p : ys.Perm (once [] xs)) (s : sortedS ys = true) : xs = ys ↔ risB xs = true := by
  constructor
  · intro e
    rw [e]
    have nd : ys.Nodup := p.nodup_iff.mpr (once_nodup xs [] List.nodup_nil)
    refine pair_ris ?_
    refine List.Pairwise.imp_of_mem (R := fun x y => leS x y ∧ x ≠ y) ?_ ((sorted_pair s).and nd)
    intro x y _ _ ⟨a, b⟩
    rcases Std.lt_trichotomy (cs x) (cs y) with z | z | z
    · exact z
    · exact absurd (cs_inj z) b
    · exact absurd z a
  · intro h
    exact sorted_one ((once_perm (ris_nodup h)).symm.trans p.symm) (ris_le h) (sorted_pair s)

def strD : PyData → Str
  | .str x => x
  | _ => Str.empty
theorem nmD_str {d : PyData} (h : nmD d = true) : d = .str (strD d) := by
  cases d <;> first | rfl | cases h
theorem nms_strs : ∀ {ds : List PyData}, ds.all nmD = true → ds = (ds.map strD).map .str
  | [], _ => rfl
  | d :: ds, h => by
    obtain ⟨a, b⟩ := Bool.and_eq_true_iff.mp (show (nmD d && ds.all nmD) = true from h)
    rw [List.map_cons, List.map_cons, ← nms_strs b, ← nmD_str a]
/-- a datum is a lot -/
def lotD : PyData → Bool
  | .tuple ds => !ds.isEmpty && ds.all nmD && risB (ds.map strD)
  | _ => false
theorem lotD_tup (ds : List PyData) : lotD (.tuple ds) = (!ds.isEmpty && ds.all nmD && risB (ds.map strD)) := rfl
def eqS : PyData → Str → Bool
  | .str y, x => y == x
  | _, _ => false
theorem eqv_str (d : PyData) (x : Str) : PyData.eqv d (.str x) = eqS d x := by
  cases d <;> simp [PyData.eqv, eqS]
theorem eqS_iff {d : PyData} {x : Str} : eqS d x = true ↔ d = .str x := by
  cases d <;> simp [eqS]
theorem eqv_strs : ∀ xs ys : List Str, PyData.eqvAll (xs.map .str) (ys.map .str) = decide (xs = ys)
  | [], [] => by simp [PyData.eqvAll]
  | [], _ :: _ => by simp [PyData.eqvAll]
  | _ :: _, [] => by simp [PyData.eqvAll]
  | x :: xs, y :: ys => by
    rw [List.map_cons, List.map_cons]
    have e : PyData.eqvAll (PyData.str x :: xs.map .str) (PyData.str y :: ys.map .str) = (PyData.eqv (.str x) (.str y) && PyData.eqvAll (xs.map .str) (ys.map .str)) := by simp [PyData.eqvAll]
    rw [e, eqv_strs xs ys, eqv_str, Bool.eq_iff_iff, Bool.and_eq_true, eqS_iff]
    simp
/-- a datum is a statement -/
def stD : PyData → Bool
  | .tuple (.str h :: r) => if h = "lot" then (r.length == 1 && r.all lotD) else if h = "before" then (r.length == 2 && r.all nmD) else (decide (h = "never") && r.isEmpty)
  | _ => false
theorem lv_head {n : Nat} {d : PyData} {r : List PyData} (h : Lv (n + 1) (.tuple (d :: r))) : Lv n d := h.2 d List.mem_cons_self
theorem lv_in {n : Nat} {ds : List PyData} {d : PyData} (h : Lv (n + 1) (.tuple ds)) (m : d ∈ ds) : Lv n d := h.2 d m
theorem lv_lot {n : Nat} {xs : List Str} (h : ∀ x ∈ xs, isNm x = true) (hl : xs.length ≤ 60) : Lv (n + 1) (.tuple (xs.map .str)) :=
  ⟨by rw [List.length_map]; exact hl, fun x hx => by
    obtain ⟨y, hy, rfl⟩ := List.mem_map.mp hx
    exact lv_nm (h y hy)⟩
theorem lv_lotL {n : Nat} {xs : List Str} (h : ∀ x ∈ xs, isNm x = true) (hl : xs.length ≤ 60) : Lv (n + 1) (.list (xs.map .str)) :=
  ⟨by rw [List.length_map]; exact hl, fun x hx => by
    obtain ⟨y, hy, rfl⟩ := List.mem_map.mp hx
    exact lv_nm (h y hy)⟩
theorem scan_small {n : Nat} (h : n ≤ 1000) : n + 1 < scanBound := by
  unfold scanBound
  omega
end Th
namespace Th
open PySem PySem.Spec PyProof.Rows L2
theorem kp {H : Hp} {l q : Addr} {o u : HO} (h : H l = some o) (hq : H q = none) : (upd H q u) l = some o := by
  rw [upd_ne (ne_of_none h hq)]
  exact h
/-- a part of data is data -/
theorem DaAll.cut {K : PySem.W.Frag} {H : Hp} {vs : List V} {ds : List PyData} (h : DaAll K H vs ds) (lo hi : Option Int) : ∃ es, DaAll K H (cutV vs lo hi) es ∧ (∀ e ∈ es, e ∈ ds) ∧ es.length ≤ ds.length := by
  unfold cutV
  refine ⟨_, (h.drop _).take _, fun e he => List.mem_of_mem_drop (List.mem_of_mem_take he), ?_⟩
  rw [List.length_take, List.length_drop]
  omega
theorem lv_snoc {n : Nat} {a b : List PyData} (h : ∀ d ∈ a, Lv n d) (k : ∀ d ∈ b, Lv n d) : ∀ d ∈ a ++ b, Lv n d := fun d hd => by
  rcases List.mem_append.mp hd with z | z
  · exact h d z
  · exact k d z
theorem lv_one {n : Nat} {d : PyData} (h : Lv n d) : ∀ e ∈ [d], Lv n e := fun e he => by
  rw [List.mem_singleton.mp he]
  exact h
theorem cutL {xs : List V} {ds : List PyData} {lo hi : Option Int} (h : xs.length = ds.length) : (cutV xs lo hi).length ≤ ds.length := by
  rw [← h]
  exact cutV_length xs lo hi
theorem cut_strs (zs : List Str) (lo hi : Option Int) : ∃ ws : List Str, cutV (zs.map V.str) lo hi = ws.map V.str ∧ (∀ x ∈ ws, x ∈ zs) ∧ ws.length ≤ zs.length := by
  unfold cutV
  refine ⟨(zs.drop (HT.sIx (zs.map V.str).length 0 lo)).take (HT.sIx (zs.map V.str).length (zs.map V.str).length hi - HT.sIx (zs.map V.str).length 0 lo), ?_, fun x hx => List.mem_of_mem_drop (List.mem_of_mem_take hx), ?_⟩
  · rw [List.map_take, List.map_drop]
  · rw [List.length_take, List.length_drop]
    omega
theorem lv_names {xs : List Str} (h : ∀ x ∈ xs, isNm x = true) (n : Nat) : ∀ d ∈ xs.map PyData.str, Lv n d := fun d hd => by
  obtain ⟨x, hx, rfl⟩ := List.mem_map.mp hd
  exact lv_nm (h x hx)
theorem lv_word (n : Nat) (x : Str) (h : PyData.strOk x = true) (h2 : x.length ≤ 100000) : Lv n (.str x) := by
  cases n <;> exact ⟨h2, h⟩
theorem Lv.ups {n m : Nat} {d : PyData} (h : Lv n d) (k : n ≤ m) : Lv m d := by
  induction k with
  | refl => exact h
  | step _ ih => exact ih.up
end Th
/-! a dict of the text with a few words as keys -/
namespace Th
open PySem PySem.Spec PyProof.Rows L2
/-- what a dict of the text holds at a word -/
def lookE : List (Str × Value) → Str → Option Value
  | [], _ => none
  | (k, v) :: r, z => if k = z then some v else lookE r z
theorem ns_of {K : PySem.W.Frag} {d : Addr} {c : Value} {od : Option Addr} {n : Nat} {sl : Array (Option Value)} : ∀ (es : List DictEntry) (kvs : List (Str × Value)), K.lookup d = some ⟨c, od, .dict es.toArray n, sl⟩ →
    Paired (fun (e : DictEntry) (p : Str × Value) => (∃ t, e.key = .str p.1 t) ∧ e.val = p.2) es kvs → ∀ z : Str, PySem.W.nsIn K d z = some (lookE kvs z) := by
  intro es kvs l p z
  unfold PySem.W.nsIn
  rw [l]
  show (match es.find? (fun e => e.key.isStr z) with | some e => some (some e.val) | none => if es.any (·.refKey) then none else some none) = some (lookE kvs z)
  have hno : es.any (·.refKey) = false := by
    clear l
    induction p with
    | nil => rfl
    | cons h _ ih =>
      obtain ⟨⟨t, e⟩, _⟩ := h
      rw [List.any_cons, ih, Bool.or_false]
      simp only [DictEntry.refKey, e]
  rw [hno]
  clear hno l
  induction p with
  | nil => rfl
  | @cons e q es kvs h _ ih =>
    obtain ⟨⟨t, e1⟩, e2⟩ := h
    obtain ⟨k, v⟩ := q
    rw [List.find?_cons]
    have hs : e.key.isStr z = decide (k = z) := by
      rw [PySem.W.isStr_of, e1]
      show Value.isStrOf z (.str k t) = _
      simp only [Value.isStrOf]
      rw [Bool.eq_iff_iff, beq_iff_eq, decide_eq_true_eq]
    rw [hs]
    unfold lookE
    by_cases hk : k = z
    · rw [decide_eq_true hk, if_pos hk]
      show some (some e.val) = _
      rw [e2]
    · rw [decide_eq_false hk, if_neg hk]
      exact ih
end Th
namespace Th
open PySem PySem.Spec PyProof.Rows L2
def rKd (K : PySem.W.Frag) (d : Addr) : R2 := fun x y H Q => ∃ (z : Str) (u0 : Value) (v0 : V), x = .ref d ∧ y = .str z ∧ PySem.W.nsIn K d z = some (some u0) ∧ RelV v0 u0 ∧ Q v0 H
def rInKd (K : PySem.W.Frag) (d : Addr) : R2 := fun x y H Q => ∃ (z : Str) (r : Option Value), x = .str z ∧ y = .ref d ∧ PySem.W.nsIn K d z = some r ∧ Q (.bl r.isSome) H
theorem ix_kd {X : Cx} {d : Addr} {es : Array DictEntry} {n : Nat} (D : KDict X.K X.w d es n) : IxR X (rKd X.K d) := by
  intro value slice pins s σ H x y v u Q I rx ry h hs
  have key := op_item_kd D pins s σ H x y v u Q I rx ry h
  obtain ⟨z, u0, v0, rfl, rfl, _⟩ := h
  cases rx
  exact tail_any (kd_type D I) PySem.F.slot_dict_getitem.lookup key hs
end Th
/-! a tuple read backwards -/
namespace Th
open PySem PySem.Spec PyProof.Rows L2 HT
section
variable {prog : Program} {w : World} {A : Around} {E : Value → Shared → Prop} {s : Shared}
theorem adj_rev (n : Nat) : Builtin.Slice.sliceAdjust none none (-1) (n : Int) = ((n : Int) - 1, -1) := by
  unfold Builtin.Slice.sliceAdjust
  simp
theorem places_rev (n : Nat) : Builtin.Slice.slicePlaces ((n : Int) - 1) (-1) (-1) = n := by
  unfold Builtin.Slice.slicePlaces
  have h1 : ¬ ((-1 : Int) > 0) := by decide
  rw [if_neg h1]
  by_cases h : (n : Int) - 1 > -1
  · rw [if_pos h, show (- -1 : Int) = 1 by decide, Int.ediv_one]
    omega
  · rw [if_neg h]
    omega
theorem applied_rev {sl : Addr} {vl vu vs : Value} {n : Nat} {Q : Int × Int × Nat → Shared → Prop} (hs : s.heap.IsSliceOf sl vl vu vs) (pl : IsPart vl none) (pu : IsPart vu none) (ps : IsPart vs (some (-1)))
    (h : Q ((n : Int) - 1, -1, n) s) : wpAny (model prog w) A (Builtin.Slice.sliceApplied (.ref sl) (pure (n : Int))) Q E s := by
  obtain ⟨os, hos, hcs, hds⟩ := id hs
  unfold Builtin.Slice.sliceApplied Builtin.Slice.sliceFields
  refine wpAny_bind (wpAny_bind (wpAny_field hos hds (x := vl) rfl (wpAny_bind (wpAny_field hos hds (x := vu) rfl (wpAny_bind (wpAny_field hos hds (x := vs) rfl (wpAny_pure ?_)))))))
  refine wpAny_bind (slicePart_ ps ?_)
  show wpAny _ _ (if ((-1 : Int) == 0) = true then _ else _) _ _ s
  rw [if_neg (by decide)]
  refine wpAny_bind (slicePart_ pl (wpAny_bind (slicePart_ pu (wpAny_bind (wpAny_pure ?_)))))
  show wpAny _ _ (match Builtin.Slice.sliceAdjust none none (-1) (n : Int) with | (lo, hi) => pure (lo, (-1 : Int), Builtin.Slice.slicePlaces lo hi (-1))) _ _ s
  rw [adj_rev n]
  show wpAny _ _ (pure ((n : Int) - 1, (-1 : Int), Builtin.Slice.slicePlaces ((n : Int) - 1) (-1) (-1))) _ _ s
  rw [places_rev]
  exact wpAny_pure h
theorem fm_congr {α β : Type} {f g : α → Option β} : ∀ {l : List α}, (∀ k ∈ l, f k = g k) → l.filterMap f = l.filterMap g
  | [], _ => rfl
  | a :: r, h => by
    rw [List.filterMap_cons, List.filterMap_cons, h a List.mem_cons_self, fm_congr (l := r) fun k hk => h k (List.mem_cons_of_mem _ hk)]
theorem pick_rev (xs : Array Value) : ((List.range xs.size).filterMap fun (k : Nat) => xs[(((xs.size : Int) - 1) + (k : Int) * (-1)).toNat]?).toArray = xs.toList.reverse.toArray := by
  have e : ((List.range xs.size).filterMap fun (k : Nat) => xs[(((xs.size : Int) - 1) + (k : Int) * (-1)).toNat]?) = (List.range xs.size).filterMap ((fun j => xs[j]?) ∘ fun k => xs.size - 1 - k) := by
    refine fm_congr fun k hk => ?_
    have := List.mem_range.mp hk
    have z : (((xs.size : Int) - 1) + (k : Int) * (-1)).toNat = xs.size - 1 - k := by omega
    rw [z]
    rfl
  rw [e, ← List.filterMap_map, PySem.W.krv_range, List.filterMap_reverse, PySem.W.krv_all]
theorem getItem_tuple_rev {t sl : Addr} {items : Array Value} {vl vu vs : Value} {Q : Value → Shared → Prop} (ht : IsTup s.heap t items) (hs : s.heap.IsSliceOf sl vl vu vs) (pl : IsPart vl none) (pu : IsPart vu none) (ps : IsPart vs (some (-1)))
    (h : Q (.ref s.heap.objs.size) { s with heap := s.heap.push { cls := .type "tuple", data := .seq items.toList.reverse.toArray } })
    (hsz : items.size ≤ sizeLine) : wpAny (model prog w) A (getItem (.ref t) (.ref sl)) Q E s := by
  have htake : sizeOk (.seq items.toList.reverse.toArray) := by
    show items.toList.reverse.toArray.size ≤ sizeLine
    rw [List.size_toArray, List.length_reverse, Array.length_toList]
    omega
  obtain ⟨os, hos, hcs, hds⟩ := id hs
  have hTs : s.TypeIs (.ref sl) "slice" := ⟨os, hos, hcs⟩
  unfold getItem
  try with_reducible refine wpAny_holding ?_
  first | refine wpAny_bind (wpAny_pure ?_) | skip
  refine wpAny_bind (wpAny_sequenceKey ht.typeIs (by decide) ?_)
  refine wpAny_bind (wpAny_callSpecial?_slot (name := Str.ofString "__getitem__") ht.typeIs PyProof.Rows.slot_tuple_getitem
    (wpAny_call_entry PyProof.Rows.slot_tuple_getitem ht.typeIs entry_tuple_getitem ?_ (args_tuple_getitem _ _)))
  show wpAny _ _ (Builtin.Tuple.tupleItemsOf (.ref t) >>= _) _ _ s
  refine wpAny_bind (tupleItemsOf_ ht ?_)
  refine wpAny_bind (wpAny_typeOf hTs ?_)
  rw [if_pos (by decide)]
  refine wpAny_bind (applied_rev hs pl pu ps ?_)
  have hno : ¬ ((((items.size : Int) - 1) == 0 && (-1 : Int) == 1 && items.size == items.size) = true) := by
    rw [show ((-1 : Int) == 1) = false by decide, Bool.and_false, Bool.false_and]
    exact Bool.false_ne_true
  show wpAny _ _ (if (((items.size : Int) - 1) == 0 && (-1 : Int) == 1 && items.size == items.size) = true then _ else _) _ _ s
  rw [if_neg hno, pick_rev]
  first
    | exact wpAny_bind (m := Builtin.Tuple.tupleExact _) (wpAny_newObj_type (wpAny_pure ⟨_, rfl, wpAny_pure h⟩) htake)
    | exact wpAny_bind (m := Builtin.Tuple.tupleExact _) (wpAny_newObj_type (wpAny_bind (wpAny_pure (wpAny_pure ⟨_, rfl, wpAny_pure h⟩))) htake)
    | exact wpAny_bind (wpAny_bind (m := Builtin.Tuple.tupleExact _) (wpAny_newObj_type (wpAny_pure (wpAny_pure ⟨_, rfl, wpAny_pure h⟩)) htake))
    | exact wpAny_bind (wpAny_bind (m := Builtin.Tuple.tupleExact _) (wpAny_newObj_type (wpAny_pure ⟨_, rfl, wpAny_pure h⟩) htake))
end
/-- a tuple whose object has no dict -/
def BareT (H : Hp) (a : Addr) (xs : List V) : Prop := ∃ o : Obj, H a = some (.frz o (.tup xs)) ∧ o.dict = none
theorem BareT.sq {K : PySem.W.Frag} {H : Hp} {a : Addr} {xs : List V} (h : BareT H a xs) : SqT K H a xs := by
  obtain ⟨o, e, _⟩ := h
  exact .inl (.inr ⟨o, e⟩)
theorem BareT.to {H H' : Hp} {a : Addr} {xs : List V} (h : BareT H a xs) (s : Same H H') : BareT H' a xs := by
  obtain ⟨o, e, d⟩ := h
  exact ⟨o, s _ _ e, d⟩
theorem bare_ty {K : PySem.W.Frag} {H : Hp} {a : Addr} {xs : List V} (h : BareT H a xs) : TyX K H (.ref a) (.type "tuple") := by
  obtain ⟨o, e, _⟩ := h
  exact .fTuple e
theorem bare_da {K : PySem.W.Frag} {H : Hp} {a : Addr} {xs : List V} {ds : List PyData} (h : BareT H a xs) (r : DaAll K H xs ds) : Da K H (.ref a) (.tuple ds) := .tup h.sq (bare_ty h) r
def rTupIx (K : PySem.W.Frag) : V → List V → Hp → VK → Prop := fun x xs H Q => ∃ p, ∃ ys : List Str, ∃ z j, x = .ref p ∧ xs = [.str z] ∧ SqT K H p (ys.map V.str) ∧ ys[j]? = some z ∧ (∀ m, m < j → ys[m]? ≠ some z) ∧ Q (.int (j : Nat)) H
theorem mt_tupIx {X : Cx} : MtR X "tuple.index" (rTupIx X.K) := mt_tup_index
def tyBare (x : V) (H : Hp) : Prop := ∃ a xs, x = .ref a ∧ BareT H a xs
section
variable {X : Cx}
theorem ty_bare : TyOk X "tuple" tyBare := by
  intro pins σ H s x v I r ty
  obtain ⟨a, xs, rfl, o, e, d⟩ := ty
  cases r
  have z := I.hok a _ e
  obtain ⟨g, _, its, _, o', g', c, _⟩ : ObjOk X.prog X.w H s.heap a (.frz o (.tup xs)) := z
  rw [g] at g'
  cases g'
  refine ⟨⟨o, g, c⟩, fun b e => ?_⟩
  cases e
  exact ⟨o, g, d⟩
theorem call_tuple_bare : CallR X (.type "tuple") (fun xs H Q => ∃ p ys, xs = [.ref p] ∧ SqL X.K H p ys ∧ ∀ l o, H l = none → o.dict = none → Q (.ref l) (upd H l (.frz o (.tup ys)))) := by
  intro pins s σ H xs us Q I r h
  obtain ⟨p, ys, rfl, hq, q⟩ := h
  obtain ⟨u, rfl, rx⟩ := vals1 r
  cases rx
  obtain ⟨its, r', pl, hz⟩ := I.list hq
  have hlen := r'.length
  refine call_tuple_list pl.isList (fun h' kp => ?_) (by simp only [List.size_toArray] <;> omega)
  have I1 : Inv X pins σ H { s with heap := h' } := I.kept (t' := s.toks) kp
  have I2 : Inv X pins σ (upd H h'.objs.size (.frz { cls := .type "tuple", data := .seq its.toArray } (.tup ys))) { s with heap := h'.push { cls := .type "tuple", data := .seq its.toArray } } :=
    I1.laid (t' := s.toks) (fun b o e => Heap.get?_push_of_some _ e) (Nat.le_refl _) (show ObjOk X.prog X.w _ _ _ (.frz { cls := .type "tuple", data := .seq its.toArray } (.tup ys)) from ⟨Heap.get?_push_size _ rfl, hz, its, r', IsTup.new _ _⟩)
  exact ⟨.ref h'.objs.size, _, I2, rfl, q _ _ (I1.hok.fresh (Nat.le_refl _)) rfl⟩
end
section
variable {X : Cx}
/-- a tuple backwards, in a new tuple -/
def tRevT (K : PySem.W.Frag) (te : TE) : TE := fun σ H Q => te σ H fun x H1 => ∃ a xs, x = .ref a ∧ SqT K H1 a xs ∧ ∀ p o, H1 p = none → o.dict = none → Q (.ref p) (upd H1 p (.frz o (.tup xs.reverse)))
theorem pe_revT {e : Expr} {te : TE} {k : Nat} {p1 p2 p3 pos : Pos} (he : PE X e te) : PE X (.Subscript e (.Slice none none (some (.UnaryOp .USub (.Constant (.int 1) k p1) p2)) p3) pos) (tRevT X.K te) := by
  refine ⟨fun pins s σ H Q I h => ?_⟩
  refine Subscript_ (thn (he.run pins s σ H _ I h) fun v s1 ⟨x, H1, I1, r1, q1⟩ => ?_)
  obtain ⟨a, xs, ex, hx, q⟩ := q1
  subst ex
  cases r1
  have hst : PO X (some (.UnaryOp .USub (.Constant (.int 1) k p1) p2)) (tPart (tUn (rU fun i => .int (-i)) (tC (.int 1)))) := po_some (pe_un un_neg pe_int)
  refine wpAny_Slice (thn (po_none.run pins s1 σ H1 (fun o H2 => o = none ∧ H2 = H1) I1 ⟨rfl, rfl⟩) fun vl s2 ⟨l, H2, I2, pl, el, e2⟩ => ?_)
  subst el e2
  refine thn (po_none.run pins s2 σ H2 (fun o H3 => o = none ∧ H3 = H2) I2 ⟨rfl, rfl⟩) fun vu s3 ⟨u, H3, I3, pu, eu, e3⟩ => ?_
  subst eu e3
  refine thn (hst.run pins s3 σ H3 (fun o H4 => o = some (-1) ∧ H4 = H3) I3 ⟨1, rfl, -1, rfl, rfl, rfl⟩) fun vs s4 ⟨o, H4, I4, ps, eo, e4⟩ => ?_
  subst eo e4
  have I5 : Inv X pins σ H4 { s4 with heap := s4.heap.push { cls := .type "slice", data := .fields #[vl, vu, vs] } } := I4.kept (t' := s4.toks) fun b ob q => Heap.get?_push_of_some _ q
  obtain ⟨its, r, ht, hz⟩ := I5.tuple hx
  have hlen : its.toArray.size = xs.length := by rw [List.size_toArray]; exact r.length.symm
  show wpAny (model X.prog X.w) X.A (subscriptTail e (.Slice none none (some (.UnaryOp .USub (.Constant (.int 1) k p1) p2)) p3) (.ref a) (.ref s4.heap.objs.size)) (EP X pins σ Q) X.xe { s4 with heap := s4.heap.push { cls := .type "slice", data := .fields #[vl, vu, vs] } }
  refine tail_any (ops := [.ref a, .ref s4.heap.objs.size]) ht.typeIs PyProof.Rows.slot_tuple_getitem.lookup ?_ (by with_unfolding_all rfl)
  refine getItem_tuple_rev ht (Heap.IsSliceOf.new _ vl vu vs) pl pu ps ?_ (by rw [hlen]; exact hz)
  refine ⟨.ref _, _, I5.laid (t' := s4.toks) (o := .frz { cls := .type "tuple", data := .seq its.toArray.toList.reverse.toArray } (.tup xs.reverse)) (fun b ob q => Heap.get?_push_of_some _ q) (Nat.le_refl _) ?_, rfl, q _ _ (I5.hok.fresh (Nat.le_refl _)) rfl⟩
  exact ⟨Heap.get?_push_size _ rfl, by rw [List.length_reverse]; exact hz, _, r.reverse, IsTup.new _ _⟩
end
end Th
/-! sorted(a tuple of texts) -/
namespace L2
open PySem PySem.Spec PyProof.Rows
section
variable {P : Program} {w : World} {A : Around} {E : Value → Shared → Prop} {s : Shared}
theorem tt_collect {t : Addr} {vs : List Value} {Q : List Value → Shared → Prop} (ht : IsTup s.heap t vs.toArray) (hz : vs.length ≤ sizeLine)
    (fin : ∀ s1 : Shared, (∀ b o, s.heap.get? b = some o → s1.heap.get? b = some o) → s1.gens = s.gens → s1.os = s.os → s.heap.objs.size ≤ s1.heap.objs.size → Q vs s1) :
    wpAny (model P w) A (collect (.ref t)) Q E s := by
  obtain ⟨o, ho, hc, n, hd⟩ := ht
  have hn : (s.heap.push (seqObj "list" #[] 0)).get? s.heap.objs.size = some (seqObj "list" #[] 0) := Heap.get?_push_size _ rfl
  unfold collect
  refine wpAny_bind (wpAny_runValue (codeAny_builtin entry_proto_collect' ?_))
  show wpAny _ _ (do again (.builtin "list.__iadd__" ⟨[← newList [], .ref t], []⟩)) _ _ s
  refine wpAny_bind (wpAny_newList (wpAny_pure ⟨Code.quiet_builtin _ (by decide +kernel), codeAny_builtin entry_list_iadd' ?_⟩))
  show wpAny _ _ (Builtin.List.listExtendWith (.ref s.heap.objs.size) (.ref t) (.ref s.heap.objs.size)) _ _ { s with heap := s.heap.push (seqObj "list" #[] 0) }
  have ho' : (s.heap.push (seqObj "list" #[] 0)).get? t = some o := Heap.get?_push_of_some _ ho
  unfold Builtin.List.listExtendWith
  refine wpAny_bind (wpAny_typeOf (T := "tuple") ⟨o, ho', hc⟩ ?_)
  rw [if_pos (by simp)]
  refine wpAny_bind (listItems_at ho' hd (wpAny_bind (listItems_at (xs := #[]) (n := 0) hn rfl ?_)))
  rw [if_neg (by simp)]
  refine wpAny_bind (listUpdate_at (xs := #[]) (n := 0) hn rfl ?_ (Nat.zero_le _) (by rw [Array.size_append, List.size_toArray]; show 0 + vs.length ≤ sizeLine + 1; omega))
  refine wpAny_pure ?_
  show wpAny (model P w) A (do
      let o ← load s.heap.objs.size
      match o.data with
      | .seq xs _ => pure xs.toList
      | _ => unsupported "internal:collect") Q E { s with heap := (s.heap.push (seqObj "list" #[] 0)).update s.heap.objs.size (Obj.mapSeq (· ++ vs.toArray)) }
  refine wpAny_bind (wpAny_load (get?_update_seq hn _) ?_)
  show wpAny _ _ (pure ((#[] : Array Value) ++ vs.toArray).toList) Q E _
  rw [show ((#[] : Array Value) ++ vs.toArray).toList = vs by simp]
  refine wpAny_pure (fin _ (fun b u hb => ?_) rfl rfl ?_)
  · have lt := Heap.lt_size hb
    show ((s.heap.push (seqObj "list" #[] 0)).update s.heap.objs.size (Obj.mapSeq (· ++ vs.toArray))).get? b = some u
    rw [Heap.get?_update_ne _ _ _ _ (Nat.ne_of_lt lt)]
    exact Heap.get?_push_of_some _ hb
  · show s.heap.objs.size ≤ ((s.heap.push (seqObj "list" #[] 0)).update s.heap.objs.size (Obj.mapSeq (· ++ vs.toArray))).objs.size
    rw [Heap.size_update, size_push']
    exact Nat.le_succ _
theorem tt_sorted {a : Addr} {vs : List Value} {l : List Str} {Q : Value → Shared → Prop} (ht : IsTup s.heap a vs.toArray) (hS : StrsAre vs l) (h64 : vs.length < 64)
    (fin : ∀ s' p (out : Array Value) (c : Nat) (ys : List Str), (∀ b o, s.heap.get? b = some o → s'.heap.get? b = some o) → s'.gens = s.gens → s'.os = s.os → s.heap.objs.size ≤ p →
      s'.heap.get? p = some (seqObj "list" out c) → StrsAre out.toList ys → ys.Perm l → sortedS ys = true → Q (.ref p) s') :
    wpAny (model P w) A (call (.builtin "sorted") [.ref a]) Q E s := by
  have hz : vs.length ≤ sizeLine := by rw [sizeLine_eq]; omega
  refine Calls.call_function_entry kind_sorted plain_sorted entry_sorted (args_sorted1 _) ?_
  unfold Builtin.«sorted»
  refine wpAny_bind (m := checkCount "sorted" 1 1 _) (wpAny_pure ?_)
  refine wpAny_bind (tt_collect ht hz fun s1 k1 g1 o1 hz1 => ?_)
  refine wpAny_bind (wpAny_newList ?_ hz)
  have hoL : (s1.heap.push (seqObj "list" vs.toArray 0)).get? s1.heap.objs.size = some (seqObj "list" vs.toArray 0) := Heap.get?_push_size _ rfl
  refine wpAny_bind (wpAny_holding (wpAny_call_entry slot_list_sort ⟨_, hoL, rfl⟩ entry_list_sort
    (list_sort_treeK strKind_oneLt hoL hS.keysOf (fun v₁ v₂ rest e => keyKind_strs (by rw [← e]; exact hS)) h64 fun st' a1 a2 => ⟨_, rfl, ?_⟩) (args_list_sort _)))
  obtain ⟨ys, b1, b2, b3⟩ := sorted_out_str hS a1 a2
  obtain ⟨c, hc⟩ := sortedHeap_at (vs := vs) (out := (arrOf st').map (·.2)) hoL
  refine wpAny_pure ⟨_, rfl, fin _ s1.heap.objs.size _ c ys (fun b u e => ?_) g1 o1 hz1 hc b1 b2 b3⟩
  have q := k1 b u e
  have hlt := Heap.lt_size q
  show (sortedHeap (s1.heap.push (seqObj "list" vs.toArray 0)) s1.heap.objs.size vs _).get? b = some u
  rw [sortedHeap_old (Nat.ne_of_lt hlt) (by rw [size_push']; exact Nat.lt_succ_of_lt hlt)]
  exact Heap.get?_push_of_some _ q
end
section
variable {X : Cx}
def rSortedTT (K : PySem.W.Frag) : List V → Hp → VK → Prop := fun vs H Q => ∃ (a : Addr) (l : List Str), vs = [V.ref a] ∧ SqT K H a (l.map V.str) ∧ l.length < 64 ∧
  ∀ (ys : List Str) (p : Addr), ys.Perm l → sortedS ys = true → H p = none → Q (.ref p) (upd H p (.lst (ys.map V.str)))
theorem cr_sortedTT : CallR X (.builtin "sorted") (rSortedTT X.K) := by
  intro pins s σ H vs us Q I r h
  obtain ⟨a, l, rfl, ha, h64, q⟩ := h
  obtain ⟨its, rv, ht, hz⟩ := I.tuple ha
  rw [Vals.ref1 r]
  have hl := rv.length
  rw [List.length_map] at hl
  refine tt_sorted ht rv.strs (by rw [← hl]; exact h64) fun s' p out c ys k g o hp hg hi hs hm => ?_
  have hlen : (ys.map V.str).length ≤ sizeLine := by rw [List.length_map, hs.length_eq, sizeLine_eq]; omega
  have hn : H p = none := I.hok.fresh hp
  have J : Inv X pins σ (upd H p (.lst (ys.map V.str))) { s with heap := s'.heap, gens := s'.gens, drawn := s'.drawn, toks := s'.toks } :=
    I.call (ch := []) (Un.laid k hp hn) (I.hok.laid k hp ⟨hlen, out.toList, c, vals_of_strs hi, hg⟩) (by rw [g]; exact I.bare) (fun _ z => nomatch z)
  have e : s' = { s with heap := s'.heap, gens := s'.gens, drawn := s'.drawn, toks := s'.toks } := by
    cases s'
    cases s
    cases o
    rfl
  rw [e]
  exact ⟨.ref p, _, J, rfl, q ys p hs hm hn⟩
end
end L2
/-! own exceptions with fields, over any built-in class: made, stored into, raised -/
namespace PySem
namespace XG
open PySem.W PySem.Calls PyProof.Rows
open Builtin Builtin.ObjectAttr
section
variable {prog : Program} {w : World} {A : Around} {R : Result → Shared → Prop} {hp : Heap} {g : Array GenState} {d : Drawn} {t : Nat} {os : OsState}
variable {K : W.Frag} {name : Str} {tk : Tok} {v : Value} {x C t1 : Addr} {B : String} {bmB : List Value}
abbrev rec_ (C t1 : Addr) (dv : Option Addr) : Obj := { cls := .ref C, dict := dv, data := .fields #[.ref t1, .none, .none, .none, .bool false, .none] }
/-- x.name = v, x without a dict as yet -/
theorem first_store (SF : StoreFacts B bmB "object.__setattr__" "object") (X : K.In hp) (hx : hp.get? x = some (rec_ C t1 none)) (ov : excOver K C bmB = true) (ht : takerIn K C name = some none) (hh : hasDictIn K C = true)
    (hq : ∀ h' tk' dx, (∀ b o, b ≠ x → hp.get? b = some o → h'.get? b = some o) → hp.objs.size ≤ dx → h'.get? x = some (rec_ C t1 (some dx)) → h'.Ns1 dx (fun y => if y = name then some v else none) → R (.ok (.ret .none)) ⟨h', g, d, tk', os⟩) :
    codeAny (model prog w) A (.call (.builtin "object.__setattr__") ⟨[.ref x, .str name tk, v], []⟩) R ⟨hp, g, d, t, os⟩ := by
  refine osa_openX (s := ⟨hp, g, d, t, os⟩) (od := none) SF X ⟨hx, rfl, rfl, trivial⟩ ov ht fun b => ?_
  obtain ⟨cd, hc, hd⟩ := any_some hh
  have lt : x < hp.objs.size := Heap.lt_size hx
  refine wpAny_bind (wpAny_pure (wpAny_bind (instanceDict_exc hx (looks_clsIn X hc) hd ?_)))
  show wpAny _ _ (storeInDict hp.objs.size (.str name tk) name v) _ _ _
  refine HandSPX.store_in_new (hp := (hp.push (dictOf [] 0)).update x fun o => { o with dict := some hp.objs.size }) ⟨_, #[], 0, (Heap.get?_update_ne _ _ _ _ (Nat.ne_of_gt lt)).trans (Heap.get?_push_at rfl rfl), rfl, fun e he => absurd he (by simp), fun _ => rfl⟩ fun h' tk' hn sm => ?_
  have up : ((hp.push (dictOf [] 0)).update x fun o => { o with dict := some hp.objs.size }).get? x = some (rec_ C t1 (some hp.objs.size)) := Heap.get?_update_self _ (Heap.get?_push_of_some _ hx) rfl
  refine hq h' tk' hp.objs.size (fun b o nb e => ?_) (Nat.le_refl _) ((sm.2 x (Nat.ne_of_lt lt)).trans up) hn
  have e1 := Heap.get?_push_of_some (dictOf [] 0) e
  exact (sm.2 b (Nat.ne_of_lt (Heap.lt_size e))).trans ((Heap.get?_update_ne _ _ _ _ nb).trans e1)
/-- x.name = v, x's dict at dx -/
theorem next_store {dx : Addr} {m0 : Str → Option Value} {nl : List Str} (SF : StoreFacts B bmB "object.__setattr__" "object") (X : K.In hp) (hx : hp.get? x = some (rec_ C t1 (some dx))) (hn : hp.Ns1 dx m0) (hw : Within m0 nl) (hl : nl.length ≤ 1000)
    (ov : excOver K C bmB = true) (ht : takerIn K C name = some none) (hh : hasDictIn K C = true)
    (hq : ∀ h' tk', (∀ b o, b ≠ dx → hp.get? b = some o → h'.get? b = some o) → h'.Ns1 dx (fun y => if y = name then some v else m0 y) → R (.ok (.ret .none)) ⟨h', g, d, tk', os⟩) :
    codeAny (model prog w) A (.call (.builtin "object.__setattr__") ⟨[.ref x, .str name tk, v], []⟩) R ⟨hp, g, d, t, os⟩ := by
  obtain ⟨od, _, _, D, _, _⟩ := hn.count hw
  refine osa_openX (s := ⟨hp, g, d, t, os⟩) (od := some od) SF X ⟨hx, rfl, rfl, D⟩ ov ht fun b => ?_
  obtain ⟨cd, hc, hd⟩ := any_some hh
  refine wpAny_bind (wpAny_pure (wpAny_bind (wpAny_bind (wpAny_loadPart hx (wpAny_bind ((looks_clsIn X hc).here ?_))))))
  rw [hd]
  refine wpAny_pure (a := some dx) ?_
  exact PySem.OEX.store_in_old hn hw hl fun h' tk' hn' sm => hq h' tk' (fun b o nb e => (sm.2 b nb).trans e) hn'
end
end XG
end PySem

namespace L2
open PySem PySem.Spec PyProof.Rows
/-- what the written part says of an own exception class at C -/
structure ExG (K : PySem.W.Frag) (C : Addr) : Prop where
  over : ∃ (B newId initId : String) (bmB : List Value), ExcBaseFacts B newId initId bmB ∧ StoreFacts B bmB "object.__setattr__" "object" ∧ PySem.W.excInitIn K C bmB newId = true ∧ PySem.W.excOver K C bmB = true
  sa : PySem.W.findIn K (.ref C) "__setattr__" = some (some (.builtin "object.__setattr__"))
  exC : PySem.W.subIn K (.ref C) (.type "BaseException") = some true
  tyC : PySem.W.typeIn K (.ref C) = some (.type "type")
  kC : PySem.W.keepIn K (.ref C) = true
  hd : PySem.W.hasDictIn K C = true
theorem taker_none {K : PySem.W.Frag} {C : Addr} {f : Str} (h : PySem.W.findIn K (.ref C) f = some none) : PySem.W.takerIn K C f = some none := by
  unfold PySem.W.takerIn
  rw [h]
  rfl
section
variable {X : Cx} {pins : List (Addr × Obj)} {σ : St} {H : Hp} {s : Shared} {a C dx : Addr} {f : Str} {y : V} {u : Value} {fs : List (Str × V)} {Q : Unit → Shared → Prop} {E : Value → Shared → Prop} {A : Around}
theorem put_first (T : ExG X.K C) (I : Inv X pins σ H s) (e : H a = some (exo a C none)) (nf : PySem.W.findIn X.K (.ref C) f = some none) (ry : RelV y u)
    (h : ∀ dx s', H dx = none → dx ≠ a → Inv X pins σ (upd (upd H dx (exd dx [(f, y)])) a (exo a C (some dx))) s' → Q () s') : wpAny (model X.prog X.w) A (setAttr (.ref a) f u) Q E s := by
  obtain ⟨B, newId, initId, bmB, FB, SF, ini, ov⟩ := T.over
  obtain ⟨t1, ho⟩ := exo_at I.hok e
  obtain ⟨hp, g, d, t, os⟩ := s
  refine PySem.W.set_plain I.kIn (ox := PySem.XG.rec_ C t1 none) (od := none) ⟨ho, rfl, rfl, trivial⟩ T.sa ?_
  refine PySem.XG.first_store SF I.kIn ho ov (taker_none nf) T.hd fun h' tk' dx k dn hx hn => ?_
  have fr : H dx = none := I.hok.fresh dn
  have ne : dx ≠ a := fun z => Nat.lt_irrefl _ (Nat.lt_of_lt_of_le (by rw [← z] at ho; exact Heap.lt_size ho) dn)
  -- the dict is laid ahead of the object's change
  have g1 : (h'.update a fun _ => PySem.XG.rec_ C t1 none).get? a = some (PySem.XG.rec_ C t1 none) := Heap.get?_update_self _ hx rfl
  have g2 : ∀ b, b ≠ a → (h'.update a fun _ => PySem.XG.rec_ C t1 none).get? b = h'.get? b := fun b nb => Heap.get?_update_ne _ _ _ _ nb
  have I1 : Inv X pins σ (upd H dx (exd dx [(f, y)])) ⟨h'.update a fun _ => PySem.XG.rec_ C t1 none, g, d, tk', os⟩ := by
    refine I.laid (t' := tk') (a := dx) (o := exd dx [(f, y)]) (h' := h'.update a fun _ => PySem.XG.rec_ C t1 none) (fun b o q => ?_) dn (exd_ok (hn.at fun o q => (g2 dx ne).trans q) fun z => ?_)
    · by_cases hb : b = a
      · subst hb
        rw [show hp.get? b = some o from q] at ho
        cases ho
        exact g1
      · exact (g2 b hb).trans (k b o hb q)
    · have z2 := relO_put (f := f) (fs := []) (mA := fun _ => none) ry (fun _ => trivial) z
      exact z2
  have I2 := I1.write (t' := tk') (x := a) (e := a) (o := exo a C (some dx)) (h' := h') (by rw [upd_ne ne.symm, e]; exact True.intro) (.inl rfl) (fun b o nb q => (g2 b nb).symm.trans q) ⟨_, hx⟩ (exo_ok hx)
  exact h dx _ fr ne I2
theorem put_next (T : ExG X.K C) (I : Inv X pins σ H s) (e : H a = some (exo a C (some dx))) (ed : H dx = some (exd dx fs)) (hl : fs.length ≤ 900) (nf : PySem.W.findIn X.K (.ref C) f = some none) (ry : RelV y u)
    (h : ∀ s', Inv X pins σ (upd H dx (exd dx ((f, y) :: fs))) s' → Q () s') : wpAny (model X.prog X.w) A (setAttr (.ref a) f u) Q E s := by
  obtain ⟨B, newId, initId, bmB, FB, SF, ini, ov⟩ := T.over
  obtain ⟨t1, ho⟩ := exo_at I.hok e
  obtain ⟨mA, hns, rel⟩ := exd_at I.hok ed
  have wi := within_of rel
  obtain ⟨hp, g, d, t, os⟩ := s
  obtain ⟨oD, _, _, D, _, _⟩ := hns.count wi
  refine PySem.W.set_plain I.kIn (ox := PySem.XG.rec_ C t1 (some dx)) (od := some oD) ⟨ho, rfl, rfl, D⟩ T.sa ?_
  refine PySem.XG.next_store SF I.kIn ho hns wi (by rw [List.length_map]; omega) ov (taker_none nf) T.hd fun h' tk' k hn => ?_
  have there : ∃ o, h'.get? dx = some o := let ⟨o, _, _, q, _⟩ := hn; ⟨o, q⟩
  exact h _ (I.write (t' := tk') (x := dx) (e := dx) (o := exd dx ((f, y) :: fs)) (by rw [ed]; exact True.intro) (.inl rfl) k there (exd_ok hn (relO_put ry rel)))
end
/-- self.f = e in such a class's __init__ -/
def tPut (K : PySem.W.Frag) (f : Str) (to te : TE) : TS := fun D σ H => te σ H fun y H1 => to σ H1 fun x H2 => ∃ a C : Addr, x = .ref a ∧ ExG K C ∧ PySem.W.findIn K (.ref C) f = some none ∧
  ((H2 a = some (exo a C none) ∧ ∀ dx, H2 dx = none → dx ≠ a → D.nx σ (upd (upd H2 dx (exd dx [(f, y)])) a (exo a C (some dx)))) ∨
    ∃ (dx : Addr) (fs : List (Str × V)), H2 a = some (exo a C (some dx)) ∧ H2 dx = some (exd dx fs) ∧ fs.length ≤ 900 ∧ D.nx σ (upd H2 dx (exd dx ((f, y) :: fs))))
theorem ps_put {X : Cx} {o e : Expr} {to te : TE} {f : Str} {p' pos : Pos} (ho : PE X o to) (he : PE X e te) (hs : swapsWith e (some (.Attribute o f p')) pos.line X.env = pure false := by rfl) : PS X (.Assign [.Attribute o f p'] e pos) (tPut X.K f to te) := by
  constructor
  intro pins s σ H D I h
  refine plainObj_wpAny_Assign_Attribute (thn (he.run pins s σ H _ I h) fun v s1 hv => ?_) hs
  obtain ⟨y, H1, I1, ry, q1⟩ := hv
  refine thn (ho.run pins s1 σ H1 _ I1 q1) fun u s2 hu => ?_
  obtain ⟨x, H2, I2, rx, a, C, ex, T, nf, q⟩ := hu
  subst ex
  obtain rfl : u = Value.ref a := rx
  rcases q with ⟨ea, q⟩ | ⟨dx, fs, ea, ed, hl, q⟩
  · exact put_first T I2 ea nf ry fun dx s' n ne J => ⟨σ, _, J, q dx n ne⟩
  · exact put_next T I2 ea ed hl nf ry fun s' J => ⟨σ, _, J, q⟩
/-- C(e, ..) -/
def tNewX (C : Addr) (sp : Sp) (ta : TA) : St → Hp → XK → Prop := fun σ H Q => ta σ H fun vs H1 => vs.length ≤ 1000 ∧ ∀ a, H1 a = none → sp (.ref a :: vs) (upd H1 a (exo a C none))
  (fun v H2 => v = .non ∧ ∃ (d : Addr) (fs : List (Str × V)), H2 a = some (exo a C (some d)) ∧ H2 d = some (exd d fs) ∧ H1 d = none ∧ Q (.ref C) (some d) (upd (del H2 a) d (.xd fs))) (fun _ _ _ => False)
theorem pmk_new {X : Cx} {x : Str} {C fI : Addr} {k : Nat} {fd : FuncData} {ps : List Str} {sp : Sp} {e : Expr} {es : List Expr} {ta : TA} {p pos : Pos} (T : ExG X.K C) (iC : PySem.W.findIn X.K (.ref C) "__init__" = some (some (.ref fI))) (tI : PySem.W.typeIn X.K (.ref fI) = some (.type "function"))
    (F1 : FnOk X.prog X.w X.K X.mg X.base CX0 k fI fd ps sp) (hr : Room (k + 1) X.A) (hb : Binds X.K fd ps []) (hg : Gl X x) (hm : X.mg x = some (.ref C)) (ha : PA X (e :: es) ta)
    (hdb : (x == ("__debug__" : Str)) = false := by decide) (he : starEach (e :: es) X.env = (false, eval e X.env) :: starEach es X.env := by rfl) (hpl : (backTo pos (starEach es X.env)).any (·.1) = false := by rfl) :
    PMk X (.Call (.Name x p) (e :: es) [] pos) (tNewX C sp ta) := by
  intro pins s σ H Q I h
  obtain ⟨B, newId, initId, bmB, FB, SF, ini, ov⟩ := T.over
  refine wpAny_Call_Name_kw (ld_glob I hg hm ?_ hdb)
  refine PySem.W.callWith_K (h₀ := X.base) I.ok.mod.kin T.kC (thn (ha.run pos pins s σ H _ I h) fun us s1 hu => ?_) he hpl
  obtain ⟨vs, H1, I1, r1, hz, q1⟩ := hu
  refine ⟨I1.kIn, ?_⟩
  obtain ⟨nm, N, qn, bs, bm, hdct, sn, sub, ab, col, dd, k0, k1, k2, k3, k5, hC, hT⟩ := PySem.W.excInit_of I1.kIn ini
  obtain ⟨hp, g, dr, tk, os⟩ := s1
  have up1 : hp.objs.size ≤ (hp.objs.size + 1) := Nat.le_succ _
  have fr : H1 (hp.objs.size + 1) = none := I1.hok.fresh up1
  have got : ((hp.push (PySem.W.kdv_tup us)).push (PySem.HandSPX.excO C hp.objs.size)).get? (hp.objs.size + 1) = some (PySem.HandSPX.excO C hp.objs.size) := by heap_get
  have two : ∀ b o, hp.get? b = some o → ((hp.push (PySem.W.kdv_tup us)).push (PySem.HandSPX.excO C hp.objs.size)).get? b = some o := fun b o q => Heap.get?_push_of_some _ (Heap.get?_push_of_some _ q)
  have I2 := I1.laid (t' := tk) (a := (hp.objs.size + 1)) (o := exo (hp.objs.size + 1) C none) (h' := (hp.push (PySem.W.kdv_tup us)).push (PySem.HandSPX.excO C hp.objs.size)) two up1 (exo_ok got)
  have want := q1 (hp.objs.size + 1) fr
  have r2 : Vals (V.ref (hp.objs.size + 1) :: vs) (Value.ref (hp.objs.size + 1) :: us) := .cons rfl r1
  have len : (Value.ref (hp.objs.size + 1) :: us).length = ps.length := r2.length.symm.trans (F1.len _ _ _ _ want)
  have short : us.length ≤ sizeLine := by
    rw [← Paired.length r1, sizeLine_eq]
    omega
  have hbb := hb _ (Value.ref (hp.objs.size + 1) :: us) I2.kIn (by rw [List.append_nil]; exact len)
  rw [List.append_nil] at hbb
  have run := F1.run _ X.stack _ _ ⟨Value.ref (hp.objs.size + 1) :: us, []⟩ (Value.ref (hp.objs.size + 1) :: us) _ _ (fun _ _ _ => False) (hr.make C us []) (I2.env0.make C us []) hbb r2 want
  refine wpAny_call (PySem.HandSPX.call_own FB hT hC (PySem.W.looks_findIn I1.kIn iC) (fun self => PySem.W.bind_fn I1.kIn self tI) short (codeAny_mono run fun r s' z => ?_))
  cases r with
  | error er => exact z.elim
  | ok fl =>
    cases fl with
    | next => exact z.elim
    | brk => exact z.elim
    | cont => exact z.elim
    | ret u =>
      obtain ⟨v, H2, os2, bare, un, hok, rv, ev, d, fs, ea, ed, hd1, q2⟩ := z
      subst ev
      obtain ⟨h2, g2, d2, t2, os'⟩ := s'
      exact ⟨rv, mk_end (raises_own T.exC T.tyC) I1 up1 two un hok os2 bare ea ed hd1 q2⟩
end L2
/-! an exception caught by a clause of two classes, its fields read, also in a def that it is handed to; a lambda called in a try -/
namespace PySem
namespace XG
theorem fly_on {base h h' : Heap} {l : List Env} {e : Addr} {Z : Obj → Prop} (F : HandSPX.FlyingZ base l e Z h) (k : ∀ b o, h.get? b = some o → h'.get? b = some o) : HandSPX.FlyingZ base l e Z h' := by
  obtain ⟨f1, f2, f3, oe, ws, T, oT, ts, g1, g2, g3, g4, g5, g6, g7, g8, g9⟩ := F
  exact ⟨fun b o q => k b o (f1 b o q), f2, f3.of_keeps fun b o q _ => ⟨o, k b o q, rfl⟩, oe, ws, T, oT, ts, k _ _ g1, g2, g3, g4, g5, g6, k _ _ g7, g8, g9⟩
end XG
end PySem
namespace L2
open PySem PySem.Spec PyProof.Rows L2H
/-! ### a field of a pinned exception -/
/-- the pinned exception: class C, its dict at dd -/
structure PinX (p : Addr × Obj) (C dd : Addr) : Prop where
  z : Zc (.ref C) (some dd) p.2
  f : ∃ vs, p.2.data = .fields vs
def tPinf (K : PySem.W.Frag) (p : Addr × Obj) (f : Str) (te : TE) : TE := fun σ H Q => te σ H fun x H1 => x = .ref p.1 ∧ ∃ (C dd : Addr) (fs : List (Str × V)) (v : V), PinX p C dd ∧ XfC K C ∧ PySem.W.findIn K (.ref C) f = some none ∧ H1 dd = some (.xd fs) ∧ fs.lookup f = some v ∧ Q v H1
theorem pe_pinf {X : Cx} {p : Addr × Obj} {e : Expr} {te : TE} {pos : Pos} {n : Str} (hp : p ∈ X.pn) (he : PE X e te) (hb : attributeBase e n X.env (eval e X.env) = eval e X.env := by rfl) : PE X (.Attribute e n pos) (tPinf X.K p n te) := by
  constructor
  intro pins s σ H Q I h
  refine attr_of hb (thn (he.run pins s σ H _ I h) fun u s1 hu => ?_)
  obtain ⟨x, H1, I1, rx, ex, C, dd, fs, v, P, T, nf, ea, l, q⟩ := hu
  subst ex
  obtain rfl : u = Value.ref p.1 := rx
  have at_ := (I1.pin p (List.mem_append_left _ hp)).1
  obtain ⟨vs, hd⟩ := P.f
  have held : ObjOk X.prog X.w H1 s1.heap dd (.xd fs) := I1.hok dd _ ea
  obtain ⟨mA, hns, rel⟩ := held
  obtain ⟨od, ho, hl⟩ := lookIn_ns hns
  obtain ⟨w, hw, rw⟩ := RelO.some_of (v := v) (o := mA n) (by rw [← l]; exact rel n)
  have J : PySem.W.InstAt s1.heap p.1 p.2 C (some od) := by
    refine ⟨at_, P.z.1, ?_, by rw [P.z.2]; exact ho⟩
    unfold PySem.W.notCls
    rw [hd] <;> rfl
  exact HandSPX.exc_get I1.kIn J T.ga T.gg T.exC (PySem.W.findObj_own T.hdC nf rfl (by rw [hl, hw])) (handed_of rw) ⟨v, H1, I1.tok _, rw, q⟩
/-! ### a def called in an except suite that raises nothing -/
structure FnQ (P : Program) (w : World) (K : PySem.W.Frag) (mg : Str → Option Value) (base : Heap) (k : Nat) (f : Addr) (fd : FuncData) (ps : List Str) (sp : Addr × Obj → Sp) : Prop where
  len : ∀ p vs H Q E, sp p vs H Q E → vs.length = ps.length
  run : ∀ (A : Around) (outer : List Env) (s : Shared) (H : Hp) (args : Args) (us : List Value) (vs : List V) (Q : VK) (E : XK) (p : Addr × Obj), RoomH k A → PinOk outer H s p → Env0 P w K mg base A outer s H → BindsTo s fd args (ps.zip us) → Vals vs us → sp p vs H Q E →
    codeAny (model P w) A (.call (.ref f) args) (CR CX0 outer P w H s Q E) s
theorem quiet_ok {P : Program} {w : World} {K : PySem.W.Frag} {mg : Str → Option Value} {base : Heap} {x qual : Str} {st : Stmt} {f : Addr} {fd : FuncData} {N ps : List Str} {k : Nat} {sp : Addr × Obj → Sp} (F : Fun K x qual st f fd) (S : FnScope N ps (defScope st)) (len : ∀ p vs H Q E, sp p vs H Q E → vs.length = ps.length)
    (hbody : ∀ (cdv : Value) (A : Around) (outer : List Env) (s : Shared) (H : Hp) (vs : List V) (Q : VK) (E : XK) (p : Addr × Obj), RoomH k (A.deeper (envOfC qual (defScope st) s.heap.objs.size f cdv)) → sp p vs H Q E →
      ∃ t, PSs (cxH CX0 P w K mg base N qual (defScope st) f cdv A outer s H E p) (defBody st) t ∧ t { nx := fun _ H' => Q .non H', rt := Q } (L2.start N vs) H) : FnQ P w K mg base (k + 1) f fd ps sp := by
  obtain ⟨oc, od, kV, doc, pm, an, cdv, ct, osl, rfl, lk, hcd⟩ := F.ex
  refine ⟨len, fun A outer s H args us vs Q E p hr pin e0 hb r hsp => ?_⟩
  have inK : K.In s.heap := e0.mod.kin.keeps fun b o e => (e0.bs b o e).1
  have kinds : ∀ y ∈ ps.zip us, (defScope st).names.lookup y.1 = some .local ∨ ((defScope st).names.lookup y.1 = some .cell ∧ ((cellsFrom (s.heap.objs.size + 1) (defScope st).names []).lookup y.1).isSome = true) := by
    rintro ⟨n, v⟩ hy
    rcases S.par n (List.of_mem_zip hy).1 with q | q
    · exact .inl q
    · exact .inr ⟨q, PySem.W.cellsFrom_some _ _ _ (.inl q)⟩
  refine codeAny_call_function hr.depth (inK _ _ lk) rfl S.co S.gen rfl (PySem.W.codeRec_of inK hcd) (hb _ _ _ _ ?_)
  refine wpAny_newFunctionEnv_cells S.kind kinds fun env he s1 x => ?_
  subst he
  refine ⟨(e0.mod.nolimit.keeps fun b o e => (e0.bs b o e).1).keeps x.toInCall.keep, codeAny_func ?_⟩
  obtain ⟨t, ht, hq⟩ := hbody cdv A outer s H vs Q E p (hr.deeper _) hsp
  have I := inv_startH (CX := CX0) (K := K) (mg := mg) (base := base) (P := P) (w := w) (E := E) (A := A) (qual := qual) (f := f) (cd := cdv) S pin e0 (len _ _ _ _ _ hsp) r x
  refine wpAny_mono (ht.run [] s1 (L2.start N vs) H _ I hq) (fun fl s' hs => ?_) fun e s' hs => hs
  cases fl with
  | ret u =>
    obtain ⟨v, σ', H', J, rv, q⟩ := hs
    exact ⟨v, H', J.os, J.bare, J.base, J.hok, rv, q⟩
  | next =>
    obtain ⟨σ', H', J, q⟩ := hs
    exact ⟨V.non, H', J.os, J.bare, J.base, J.hok, rfl, q⟩
  | brk =>
    obtain ⟨_, _, _, q⟩ := hs
    exact False.elim q
  | cont =>
    obtain ⟨_, _, _, q⟩ := hs
    exact False.elim q
theorem pe_callQ {X : Cx} {k : Nat} {f : Addr} {fd : FuncData} {ps : List Str} {sp : Addr × Obj → Sp} {x : Str} {q pos : Pos} {e : Expr} {es : List Expr} {t : TA} {p : Addr × Obj} (hp : p ∈ X.pn) (F : FnQ X.prog X.w X.K X.mg X.base k f fd ps sp) (hr : RoomH k X.A) (hg : Gl X x) (hm : X.mg x = some (.ref f)) (hk : PySem.W.keepIn X.K (.ref f) = true) (hb : Binds X.K fd ps [])
    (ha : PA X (e :: es) t) (hdb : (x == ("__debug__" : Str)) = false := by decide) (he : starEach (e :: es) X.env = (false, eval e X.env) :: starEach es X.env := by rfl) (hpl : (backTo pos (starEach es X.env)).any (·.1) = false := by rfl) :
    PE X (.Call (.Name x q) (e :: es) [] pos) (fun σ H Q => t σ H fun vs H1 => sp p vs H1 Q E0) := by
  constructor
  intro pins s σ H Q I h
  refine wpAny_Call_Name_kw (ld_glob I hg hm ?_ hdb)
  refine PySem.W.callWith_K (h₀ := X.base) I.ok.mod.kin hk (thn (ha.run pos pins s σ H _ I h) fun us s1 hu => ?_) he hpl
  obtain ⟨vs, H1, I1, r, hq⟩ := hu
  refine ⟨I1.kIn, ?_⟩
  have b := hb s1 us I1.kIn (by rw [List.append_nil, ← r.length]; exact F.len _ _ _ _ _ hq)
  rw [List.append_nil] at b
  obtain ⟨p1, p2, p3, p4, p5⟩ := I1.pin p (List.mem_append_left _ hp)
  have pin : PinOk X.stack H1 s1 p := ⟨p1, p2, fun hm => (List.mem_cons.mp (I1.stkSub p.1 hm)).elim p3 p4, p5⟩
  refine wpAny_call (codeAny_mono (F.run X.A X.stack s1 H1 ⟨us, []⟩ us vs Q E0 p hr pin I1.env0 b r hq) fun r s' z => ?_)
  cases r with
  | error e => exact (show False from z).elim
  | ok fl =>
    cases fl with
    | ret u => exact I1.after z
    | next => exact False.elim z
    | brk => exact False.elim z
    | cont => exact False.elim z
/-! ### try: body, except (x1, x2) as n: suite; nothing else flies -/
def wTwo (K : PySem.W.Frag) (c1 c2 : Value) (i : Nat) (ts : Addr → Value → Option Addr → TS) (D : Ends) : WX := fun cls d σ H => PySem.W.exmAny K cls [c1, c2] = some true ∧
  ∀ a, H a = none → i < σ.length → ts a cls d { nx := fun σ' H' => D.nx (σ'.set i none) H', rt := D.rt, bk := fun σ' H' => D.bk (σ'.set i none) H', ct := fun σ' H' => D.ct (σ'.set i none) H' } (σ.set i (some (.ref a))) H
section
variable {X : Cx} {x1 x2 n : Str} {c1 c2 : Value} {i j : Nat} {body suite : List Stmt} {b₀ : Stmt} {q1 q2 q3 pos pos' : Pos} {tb : WX → TS} {ts : Addr → Value → Option Addr → TS}
theorem ps_try_two (hs : X.stack = X.env :: X.outer) (hf : X.env.frame = some X.env.locals) (hN : X.N.Nodup) (hi : X.N[i]? = some n) (hln : X.env.kindOf n = some .local)
    (g1 : Gl X x1) (d1 : (x1 == ("__debug__" : Str)) = false) (m1 : X.mg x1 = some c1) (g2 : Gl X x2) (d2 : (x2 == ("__debug__" : Str)) = false) (m2 : X.mg x2 = some c2)
    (hb : ∀ (W : WX) (pn : List (Addr × Obj)) (xe : Value → Shared → Prop), Takes (X.tr pn xe) W → PSs (X.tr pn xe) body (tb W))
    (hsu : ∀ (a : Addr) (oe : Obj) (cls : Value) (d : Option Addr) (pn : List (Addr × Obj)), Zc cls d oe → (∃ vs, oe.data = .fields vs) → PSs (X.suite a ((a, oe) :: pn)) (b₀ :: suite) (ts a cls d)) :
    PS X (.Try body [.ExceptHandler (some (.Tuple [.Name x1 q1, .Name x2 q2] j q3)) (some n) (b₀ :: suite) pos'] [] [] pos) (fun D σ H => tb (wTwo X.K c1 c2 i ts D) D σ H) := by
  constructor
  intro pins s σ H D I h
  have ok := I.ok
  refine wpAny_Try_except (wpAny_mono ((hb (wTwo X.K c1 c2 i ts D) (X.pn ++ pins) _ ?tk).run [] s σ H D (I.toTry _) h) ?_ fun e s1 he => he)
  case tk =>
    rintro u s' ⟨a, B, sI, pins', σ', H', cls, d, rfl, J', nb, up, sky, na, os, ag, ex, want⟩
    have J : Inv X pins σ' H' sI := J'.ofTry ok
    have hfr : X.A.frames = some (X.env :: X.outer) := by rw [ok.frames, hs]
    rw [show (X.tr (X.pn ++ pins) _).stack = X.env :: X.outer from hs] at sky
    show wpAny (model X.prog X.w) X.A (noteFrame (.ref a) X.env) _ _ _
    refine Sky.land Zc.steady hfr hf sky fun h3 fl3 up3 => ?_
    have J3 : Inv X pins σ' H' { s' with heap := h3 } := J.landed nb fl3.1 (up.trans up3) os ag
    obtain ⟨oe3, vs3, he3, hz3, hd3⟩ := fl3.there
    -- the exception is no frame
    have off : a ∉ frs (X.env :: X.outer) := fun hm => by
      obtain ⟨_, o', e', hnf⟩ := fl3.2.2.1.mem hm
      rw [he3] at e'
      cases e'
      exact hnf _ hd3
    have nL : a ≠ X.env.locals := fun z => off (List.mem_filterMap.mpr ⟨X.env, List.mem_cons_self, by rw [hf, z]⟩)
    have nF : a ∉ X.fs := fun hm => by
      obtain ⟨e, he, q⟩ := List.mem_filterMap.mp hm
      exact off (List.mem_filterMap.mpr ⟨e, List.mem_cons_of_mem _ he, q⟩)
    have S3 := J3.suite he3 hd3 na nL nF
    refine PySem.W.exc_clause_as ?_
    refine wpAny_Tuple (wpAny_items_cons (ld_glob (X := X.suite a ((a, oe3) :: (X.pn ++ pins))) S3 g1 m1 ?_ d1))
    refine wpAny_items_cons (ld_glob (X := X.suite a ((a, oe3) :: (X.pn ++ pins))) S3 g2 m2 ?_ d2)
    refine wpAny_items_nil ⟨by size_fits, ?_⟩
    have kp : ∀ q o, h3.get? q = some o → (h3.push { cls := .type "tuple", data := .seq [c1, c2].toArray }).get? q = some o := fun _ _ z => Heap.get?_push_of_some _ z
    have LT : PySem.W.Looks (model X.prog X.w) h3 (typeOf (.ref a)) cls := fun A Q E s k q => wpAny_typeOf_ref (k _ _ he3) (by rw [hz3.1]; exact q)
    refine ⟨true, PySem.W.exm_tup2 (J3.kIn.keeps kp) (LT.keeps kp) (Heap.get?_push_size h3 rfl) ex, ?_⟩
    rw [if_pos rfl]
    have up3' := (up.trans up3).trans (Heap.UpToSlots.of_keeps kp)
    refine HandSPX.lands_againZ (PySem.XG.fly_on fl3 kp) fun h4 fl4 up4 => ?_
    have J4 : Inv X pins σ' H' { s' with heap := h4 } := J.landed nb fl4.1 (up3'.trans up4) os ag
    obtain ⟨oe4, vs4, he4, hz4, hd4⟩ := fl4.there
    have S4 := J4.suite he4 hd4 na nL nF
    refine store_ok (X := X.suite a ((a, oe4) :: (X.pn ++ pins))) (v := .ref a) S4 hN hi (.inl hln) rfl (fun s5 S5 => ?_) (.inr hln)
    refine wpAny_mono ((hsu a oe4 cls d (X.pn ++ pins) hz4 ⟨_, hd4⟩).run [] s5 _ H' _ S5 (want a na (by rw [J.len]; exact (List.getElem?_eq_some_iff.mp hi).1))) (fun f s6 hsp => ?_) fun _ _ z => False.elim z
    have gone : ∀ {σ6 : St} {H6 : Hp} {Q : Shared → Prop}, Inv (X.suite a ((a, oe4) :: (X.pn ++ pins))) [] σ6 H6 s6 → (∀ s7, Inv X pins (σ6.set i none) H6 s7 → Q s7) →
        wpAny (model X.prog X.w) X.A (do bindName X.env n .none; unbindBehindTheSuite X.env n pos') (fun _ s7 => Q s7) X.xe s6 := fun S6 hq => gone_ok (S6.unsuite ok) hN hi hln hq
    cases f with
    | ret u =>
      obtain ⟨v6, σ6, H6, S6, r6, q6⟩ := hsp
      exact gone S6 fun s7 J7 => ⟨_, _, _, J7, r6, q6⟩
    | next =>
      obtain ⟨σ6, H6, S6, q6⟩ := hsp
      exact gone S6 fun s7 J7 => ⟨_, _, J7, q6⟩
    | brk =>
      obtain ⟨σ6, H6, S6, q6⟩ := hsp
      exact gone S6 fun s7 J7 => ⟨_, _, J7, q6⟩
    | cont =>
      obtain ⟨σ6, H6, S6, q6⟩ := hsp
      exact gone S6 fun s7 J7 => ⟨_, _, J7, q6⟩
  · intro f s1 hsp
    cases f with
    | next =>
      obtain ⟨σ', H', J', q⟩ := hsp
      exact wpAny_execs_nil ⟨σ', H', J'.ofTry ok, q⟩
    | ret u =>
      obtain ⟨v, σ', H', J', r, q⟩ := hsp
      exact ⟨v, σ', H', J'.ofTry ok, r, q⟩
    | brk =>
      obtain ⟨σ', H', J', q⟩ := hsp
      exact ⟨σ', H', J'.ofTry ok, q⟩
    | cont =>
      obtain ⟨σ', H', J', q⟩ := hsp
      exact ⟨σ', H', J'.ofTry ok, q⟩
end
end L2
/-! what the laws' proofs share about errors: their promises, the fields, a lambda called in a try -/
namespace Th
open PySem PySem.Spec PyProof.Rows L2
/-! ### what stays but for tables of code and exceptions being made -/
def Plain (o : HO) : Prop := (∀ φ, o ≠ .ext φ) ∧ ∀ ps, o ≠ .tbl ps
def KeepD (H H' : Hp) : Prop := ∀ b o, H b = some o → Plain o → H' b = some o
theorem KeepD.of {H H' : Hp} (s : Same H H') : KeepD H H' := fun b o e _ => s b o e
theorem KeepD.trans {H H1 H2 : Hp} (a : KeepD H H1) (b : KeepD H1 H2) : KeepD H H2 := fun c o e p => b c o (a c o e p) p
theorem KeepD.refl (H : Hp) : KeepD H H := fun _ _ e _ => e
theorem keepD_ext {H H' : Hp} (e : LamX.ExtN H H') : KeepD H H' := fun b o h p => e b o h p.2
theorem plain_lst (xs : List V) : Plain (.lst xs) := ⟨fun φ z => (by cases z), fun ps z => (by cases z)⟩
theorem plain_tup (xs : List V) : Plain (.tup xs) := ⟨fun φ z => (by cases z), fun ps z => (by cases z)⟩
theorem plain_frz (o : Obj) (u : HO) : Plain (.frz o u) := ⟨fun φ z => (by cases z), fun ps z => (by cases z)⟩
theorem plain_ins (C dx : Addr) (fs : List (Str × V)) : Plain (.ins C dx fs) := ⟨fun φ z => (by cases z), fun ps z => (by cases z)⟩
theorem plain_dK (kvs : List (Key × V)) : Plain (.dK kvs) := ⟨fun φ z => (by cases z), fun ps z => (by cases z)⟩
theorem plain_dT (kvs : List (List Key × V)) : Plain (.dT kvs) := ⟨fun φ z => (by cases z), fun ps z => (by cases z)⟩
theorem plain_set (S : Int → Bool) (n : Nat) : Plain (.set S n) := ⟨fun φ z => (by cases z), fun ps z => (by cases z)⟩
section
variable {K : PySem.W.Frag} {H H' : Hp}
theorem KeepD.l (e : KeepD H H') {a : Addr} {xs : List V} (h : SqL K H a xs) : SqL K H' a xs := by
  rcases h with (h | ⟨o, h⟩) | h
  · exact .inl (.inl (e _ _ h (plain_lst xs)))
  · exact .inl (.inr ⟨o, e _ _ h (plain_frz o _)⟩)
  · exact .inr h
theorem KeepD.t (e : KeepD H H') {a : Addr} {xs : List V} (h : SqT K H a xs) : SqT K H' a xs := by
  rcases h with (h | ⟨o, h⟩) | h
  · exact .inl (.inl (e _ _ h (plain_tup xs)))
  · exact .inl (.inr ⟨o, e _ _ h (plain_frz o _)⟩)
  · exact .inr h
theorem KeepD.ty (e : KeepD H H') {v : V} {t : Value} (h : TyX K H v t) : TyX K H' v t := by
  cases h with
  | byt b => exact .byt b
  | kList h c => exact .kList h c
  | kTuple h c => exact .kTuple h c
  | kDict h c => exact .kDict h c
  | set h => exact .set (e _ _ h (plain_set _ _))
  | fTuple h => exact .fTuple (e _ _ h (plain_frz _ _))
  | fDict h => exact .fDict (e _ _ h (plain_frz _ _))
  | base b =>
    refine .base ?_
    cases b with
    | non => exact .non
    | bl x => exact .bl x
    | int i => exact .int i
    | str x => exact .str x
    | flt x => exact .flt x
    | lst h => exact .lst (e _ _ h (plain_lst _))
    | frz h => exact .frz (e _ _ h (plain_frz _ _))
    | tup h => exact .tup (e _ _ h (plain_tup _))
    | dK h => exact .dK (e _ _ h (plain_dK _))
    | dT h => exact .dT (e _ _ h (plain_dT _))
    | ins h cl ha hn htk hm => exact .ins (e _ _ h (plain_ins _ _ _)) cl ha hn htk hm
mutual
theorem Da.keepD (e : KeepD H H') : ∀ (d : PyData) (v : V), Da K H v d → Da K H' v d
  | .none, _, h => by cases h; exact .non
  | .bool b, _, h => by cases h; exact .bl b
  | .int i, _, h => by cases h; exact .int i
  | .str x, _, h => by cases h; exact .str x
  | .list ds, _, h => by
    cases h with
    | lst hs ht ha => exact .lst (e.l hs) (e.ty ht) (DaAll.keepD e ds _ ha)
  | .tuple ds, _, h => by
    cases h with
    | tup hs ht ha => exact .tup (e.t hs) (e.ty ht) (DaAll.keepD e ds _ ha)
  | .dict _, _, h => by cases h
theorem DaAll.keepD (e : KeepD H H') : ∀ (ds : List PyData) (vs : List V), DaAll K H vs ds → DaAll K H' vs ds
  | [], _, h => by cases h; exact .nil
  | d :: ds, _, h => by
    cases h with
    | cons h1 h2 => exact .cons (Da.keepD e d _ h1) (DaAll.keepD e ds _ h2)
end
theorem Da.kd {v : V} {d : PyData} (h : Da K H v d) (e : KeepD H H') : Da K H' v d := Da.keepD e d v h
end
theorem KeepD.drw {D : DS} {H H' : Hp} (e : KeepD H H') (d : Drw D H) : Drw D H' := by
  obtain ⟨ne, sc, few, i, v, m, c, st, r⟩ := d
  exact ⟨ne, e _ _ sc (plain_lst _), few, i, v, m, c, e _ _ st (plain_lst _), r⟩
theorem KeepD.go {D : DS} {H H' : Hp} (d : Drw D H) (g : Go D H H') {a : Addr} {o : HO} (h : H a = some o) (ne : a ≠ D.p) : H' a = some o := g.old ne h
theorem Tabs.sm {T : List (Addr × Str)} {H H' : Hp} (t : LamX.Tabs T H) (s : Same H H') : LamX.Tabs T H' := t.ext fun b o e => s b o e
theorem Tabs.go {T : List (Addr × Str)} {D : DS} {H H' : Hp} (t : LamX.Tabs T H) (d : Drw D H) (g : Go D H H') : LamX.Tabs T H' := fun p hp => by
  obtain ⟨ps, h1, h2, h3⟩ := t p hp
  obtain ⟨_, _, _, i, v, m, c, st, _⟩ := d
  have n1 : p.1 ≠ D.p := fun z => by
    rw [z, st] at h1
    cases h1
  refine ⟨ps, g.old n1 h1, h2, fun pos cv hc => ?_⟩
  obtain ⟨c', e1, e2⟩ := h3 pos cv hc
  have n2 : c' ≠ D.p := fun z => by
    rw [z, st] at e2
    unfold LamX.CodeO at e2
    cases e2
  exact ⟨c', e1, g.old n2 e2⟩

/-! ### errors -/
/-- an error that flies: its class by name, its fields -/
structure IsExc (K : PySem.W.Frag) (mg : Str → Option Value) (code : Str) (fs : List (Str × V)) (cls : Value) (d : Option Addr) (H : Hp) : Prop where
  ex : ∃ C dd : Addr, cls = .ref C ∧ d = some dd ∧ XfC K C ∧ (∀ f ∈ fs.map (·.1), PySem.W.findIn K (.ref C) f = some none) ∧ H dd = some (.xd fs) ∧
    ∀ c1 c2, mg "FindError" = some (.ref c1) → mg "Missing" = some (.ref c2) → PySem.W.exmAny K cls [.ref c1, .ref c2] = some true
  code : fs.lookup ("code" : Str) = some (V.str code)
/-- an error class of the program; st: its __init__ -/
structure ErrC (K : PySem.W.Frag) (mg : Str → Option Value) (x : Str) (qual : Str) (st : Stmt) (ps : List Str) (fns : List Str) (C fI : Addr) (fd : FuncData) : Prop where
  m : mg x = some (.ref C)
  g : ExG K C
  xf : XfC K C
  nf : ∀ f ∈ fns, PySem.W.findIn K (.ref C) f = some none
  ini : PySem.W.findIn K (.ref C) "__init__" = some (some (.ref fI))
  tI : PySem.W.typeIn K (.ref fI) = some (.type "function")
  F : Fun K "__init__" qual st fI fd
  b : Binds K fd ps []
  ca : ∀ c1 c2, mg "FindError" = some (.ref c1) → mg "Missing" = some (.ref c2) → PySem.W.exmAny K (.ref C) [.ref c1, .ref c2] = some true
/-- __init__(self, v): self.fld = _copied(v); self.code = code -/
def spInit1 (K : PySem.W.Frag) (code fld : Str) (n : Nat) : Sp := fun vs H Q _ => ∃ (a C : Addr) (v : V) (d : PyData), vs = [.ref a, v] ∧ ExG K C ∧ PySem.W.findIn K (.ref C) fld = some none ∧ PySem.W.findIn K (.ref C) "code" = some none ∧ H a = some (exo a C none) ∧ Da K H v d ∧ LvN n d ∧
  ∀ (H1 : Hp) (v' : V) (dx : Addr), Same H H1 → Da K H1 v' d → H1 dx = none → dx ≠ a → Q .non (upd (upd (upd H1 dx (exd dx [(fld, v')])) a (exo a C (some dx))) dx (exd dx [("code", .str code), (fld, v')]))
theorem new1 {K : PySem.W.Frag} {mg : Str → Option Value} {x qual fld : Str} {st : Stmt} {ps fns : List Str} {C fI : Addr} {fd : FuncData} {n : Nat} {H : Hp} {v : V} {d : PyData} {W : XK} (E : ErrC K mg x qual st ps fns C fI fd) (h1 : fld ∈ fns) (h2 : ("code" : Str) ∈ fns) (hv : Da K H v d) (lv : LvN n d)
    (q : ∀ cls dd v' H', Same H H' → IsExc K mg x [("code", .str x), (fld, v')] cls dd H' → Da K H' v' d → W cls dd H') :
    ([v] : List V).length ≤ 1000 ∧ ∀ a, H a = none → spInit1 K x fld n (.ref a :: [v]) (upd H a (exo a C none)) (fun v H2 => v = .non ∧ ∃ (d : Addr) (fs : List (Str × V)), H2 a = some (exo a C (some d)) ∧ H2 d = some (exd d fs) ∧ H d = none ∧ W (.ref C) (some d) (upd (del H2 a) d (.xd fs))) (fun _ _ _ => False) := by
  refine ⟨by show 1 ≤ 1000; decide, fun a na => ⟨a, C, v, d, rfl, E.g, E.nf _ h1, E.nf _ h2, upd_same, hv.to (same_new na), lv, fun H1 v' dx s hv' nd ne => ?_⟩⟩
  have ea := s _ _ (upd_same (H := H) (a := a) (o := exo a C none))
  have nH : H dx = none := by
    cases e : H dx with
    | none => rfl
    | some o =>
      have := s dx o (by rw [upd_ne ne]; exact e)
      rw [nd] at this
      cases this
  refine ⟨rfl, dx, _, ?_, upd_same, nH, q _ _ v' _ (fun b o e => ?_) ⟨⟨C, dx, rfl, rfl, E.xf, fun f hf => ?_, upd_same, E.ca⟩, rfl⟩ ?_⟩
  · rw [upd_ne ne.symm, upd_same]
  · have nb : b ≠ a := fun z => by rw [z, na] at e; cases e
    have nb2 : b ≠ dx := fun z => by rw [z, nH] at e; cases e
    rw [upd_ne nb2, del_ne nb, upd_ne nb2, upd_ne nb, upd_ne nb2]
    exact s b o (by rw [upd_ne nb]; exact e)
  · rcases List.mem_cons.mp hf with e | m
    · rw [e]; exact E.nf _ h2
    · rw [List.mem_singleton.mp m]; exact E.nf _ h1
  · refine hv'.kd fun b o e p => ?_
    have nb : b ≠ a := fun z => by
      rw [z, ea] at e
      exact p.1 _ (Option.some.inj e).symm
    have nb2 : b ≠ dx := fun z => by rw [z, nd] at e; cases e
    rw [upd_ne nb2, del_ne nb, upd_ne nb2, upd_ne nb, upd_ne nb2]
    exact e
/-- what a def promises that may raise -/
def HasX (P : Program) (w : World) (K : PySem.W.Frag) (mg : Str → Option Value) (base : Heap) (x : Str) (st : Stmt) (k : Nat) (ps : List Str) (sp : Sp) : Prop :=
  ∃ (f : Addr) (fd : FuncData), FnOk P w K mg base (L2.CX P w) k f fd ps sp ∧ mg x = some (.ref f) ∧ PySem.W.keepIn K (.ref f) = true ∧ Binds K fd ps [] ∧ Fun K x x st f fd
def HasQ (P : Program) (w : World) (K : PySem.W.Frag) (mg : Str → Option Value) (base : Heap) (x : Str) (st : Stmt) (k : Nat) (ps : List Str) (sp : Addr × Obj → Sp) : Prop :=
  ∃ (f : Addr) (fd : FuncData), FnQ P w K mg base k f fd ps sp ∧ mg x = some (.ref f) ∧ PySem.W.keepIn K (.ref f) = true ∧ Binds K fd ps [] ∧ Fun K x x st f fd
def HasE (P : Program) (w : World) (K : PySem.W.Frag) (mg : Str → Option Value) (base : Heap) (x qual : Str) (st : Stmt) (ps fns : List Str) (k : Nat) (sp : Sp) : Prop :=
  ∃ (C fI : Addr) (fd : FuncData), ErrC K mg x qual st ps fns C fI fd ∧ FnOk P w K mg base CX0 k fI fd ps sp
theorem passF {X : Cx} : Passes (L2.CX X.prog X.w) X E0 := fun _ _ _ _ _ _ _ h => by
  obtain ⟨_, _, _, _, _, _, _, _, _, _, _, _, z⟩ := h
  exact z.elim
/-- what a try tells of an error: the word, its code, then its fields as Fl says -/
def TTry (K : PySem.W.Frag) (mg : Str → Option Value) (Fl : Str → List (Str × V) → List V → Prop) : (XK → Hp → VK → Prop) → Hp → VK → Prop := fun tl H Q =>
  tl (fun cls d H' => ∃ code fs ws, IsExc K mg code fs cls d H' ∧ Fl code fs ws ∧ ws.length ≤ 1000 ∧ ∀ r H'', Same H' H'' → H' r = none → H'' r = some (.tup (.str "no" :: .str code :: ws)) → Q (.ref r) H'')
    H fun v H1 => ([.str "told", v] : List V).length ≤ sizeLine ∧ ∀ r, H1 r = none → Q (.ref r) (upd H1 r (.tup [.str "told", v]))
/-- the fields of an error in hand, in a tuple -/
def spFields (K : PySem.W.Frag) (mg : Str → Option Value) (Fl : Str → List (Str × V) → List V → Prop) : Addr × Obj → Sp := fun p vs H Q _ => ∃ (C dd : Addr) (code : Str) (fs : List (Str × V)) (ws : List V), vs = [.ref p.1] ∧ PinX p C dd ∧ IsExc K mg code fs (.ref C) (some dd) H ∧ Fl code fs ws ∧ ws.length ≤ 1000 ∧
  ∀ r H', Same H H' → H r = none → H' r = some (.tup ws) → Q (.ref r) H'
end Th
namespace Th
open PySem PySem.Spec PyProof.Rows L2
/-! ### some objects hidden -/
open Classical in
noncomputable def hidS (S : Addr → Prop) (H : Hp) : Hp := fun b => if S b then none else H b
theorem hidS_in {S : Addr → Prop} {H : Hp} {b : Addr} (h : S b) : hidS S H b = none := if_pos h
theorem hidS_out {S : Addr → Prop} {H : Hp} {b : Addr} (h : ¬ S b) : hidS S H b = H b := if_neg h
theorem hidS_some {S : Addr → Prop} {H : Hp} {b : Addr} {o : HO} (h : hidS S H b = some o) : ¬ S b ∧ H b = some o := by
  by_cases z : S b
  · rw [hidS_in z] at h
    cases h
  · rw [hidS_out z] at h
    exact ⟨z, h⟩
theorem hidS_same {S : Addr → Prop} {H : Hp} : Same (hidS S H) H := fun _ _ h => (hidS_some h).2
theorem hidS_mono {S : Addr → Prop} {H H' : Hp} (s : Same H H') : Same (hidS S H) (hidS S H') := fun b o h => by
  obtain ⟨n, e⟩ := hidS_some h
  rw [hidS_out n]
  exact s b o e
/-- one more is hidden, which was not there -/
theorem hidS_more {S : Addr → Prop} {H H' : Hp} {L : Addr} (s : Same H H') (n : H L = none) : Same (hidS S H) (hidS (fun b => S b ∨ b = L) H') := fun b o h => by
  obtain ⟨nb, e⟩ := hidS_some h
  have nL : b ≠ L := fun z => by rw [z, n] at e; cases e
  rw [hidS_out (fun z => z.elim nb nL)]
  exact s b o e
theorem hidS_less {S : Addr → Prop} {H : Hp} {L : Addr} : Same (hidS (fun b => S b ∨ b = L) H) (hidS S H) := fun b o h => by
  obtain ⟨nb, e⟩ := hidS_some h
  rw [hidS_out fun z => nb (.inl z)]
  exact e
theorem hidS_upd {S : Addr → Prop} {H : Hp} {L : Addr} {o : HO} : hidS (fun b => S b ∨ b = L) (upd H L o) = hidS (fun b => S b ∨ b = L) H := by
  funext b
  by_cases z : S b ∨ b = L
  · rw [hidS_in z, hidS_in z]
  · rw [hidS_out z, hidS_out z, upd_ne fun e => z (.inr e)]
end Th
namespace Th
open PySem PySem.Spec PyProof.Rows L2
def tPinA (K : PySem.W.Frag) (i : Nat) (a : Addr) (cls : Value) (d : Option Addr) (n : Str) : TE := fun σ H Q => σ[i]? = some (some (.ref a)) ∧ ∃ (C dd : Addr) (fs : List (Str × V)) (v : V), cls = .ref C ∧ d = some dd ∧ XfC K C ∧ PySem.W.findIn K (.ref C) n = some none ∧ H dd = some (.xd fs) ∧ fs.lookup n = some v ∧ Q v H
def tFieldsA (K : PySem.W.Frag) (mg : Str → Option Value) (Fl : Str → List (Str × V) → List V → Prop) (i : Nat) (a : Addr) (cls : Value) (d : Option Addr) : TE := fun σ H Q => σ[i]? = some (some (.ref a)) ∧ ∃ (C dd : Addr) (code : Str) (fs : List (Str × V)) (ws : List V), cls = .ref C ∧ d = some dd ∧ IsExc K mg code fs (.ref C) (some dd) H ∧ Fl code fs ws ∧ ws.length ≤ 1000 ∧ ∀ r H', Same H H' → H r = none → H' r = some (.tup ws) → Q (.ref r) H'
section
variable {X : Cx} {a : Addr} {oe : Obj} {cls : Value} {d : Option Addr} {e : Expr} {n : Str} {i : Nat} {pos q : Pos}
/-- in the clause's suite: the caught error's field -/
theorem pe_pinA (hp : (a, oe) ∈ X.pn) (hz : Zc cls d oe) (hf : ∃ vs, oe.data = .fields vs) (he : PE X e (tVar i)) (hb : attributeBase e n X.env (eval e X.env) = eval e X.env := by rfl) :
    PE X (.Attribute e n pos) (tPinA X.K i a cls d n) := by
  constructor
  rintro pins s σ H Q I ⟨h0, C, dd, fs, v, rfl, rfl, T, nf, ed, l, hq⟩
  exact (pe_pinf hp he hb).run pins s σ H Q I ⟨_, h0, rfl, C, dd, fs, v, ⟨hz, hf⟩, T, nf, ed, l, hq⟩
/-- .. its fields, told by a def -/
theorem pe_fieldsA {Fl : Str → List (Str × V) → List V → Prop} {k : Nat} {f : Addr} {fd : FuncData} {ps : List Str} {x : Str} (hp : (a, oe) ∈ X.pn) (hz : Zc cls d oe) (hf : ∃ vs, oe.data = .fields vs) (F : FnQ X.prog X.w X.K X.mg X.base k f fd ps (spFields X.K X.mg Fl)) (hr : L2H.RoomH k X.A) (hg : Gl X x) (hm : X.mg x = some (.ref f)) (hk : PySem.W.keepIn X.K (.ref f) = true) (hb : Binds X.K fd ps [])
    (he : PA X [e] (tCons (tVar i) tNil)) (hdb : (x == ("__debug__" : Str)) = false := by decide) (hs : starEach [e] X.env = (false, eval e X.env) :: starEach [] X.env := by rfl) (hpl : (backTo pos (starEach [] X.env)).any (·.1) = false := by rfl) :
    PE X (.Call (.Name x q) [e] [] pos) (tFieldsA X.K X.mg Fl i a cls d) := by
  constructor
  rintro pins s σ H Q I ⟨h0, C, dd, code, fs, ws, rfl, rfl, E, fl, lw, hq⟩
  exact (pe_callQ (p := (a, oe)) hp F hr hg hm hk hb he hdb hs hpl).run pins s σ H Q I ⟨_, h0, C, dd, code, fs, ws, rfl, ⟨hz, hf⟩, E, fl, lw, hq⟩
end
end Th
namespace Th
open PySem PySem.Spec PyProof.Rows L2
/-- a def whose code object is known -/
theorem okC {P : Program} {w : World} {K : PySem.W.Frag} {mg : Str → Option Value} {base : Heap} {x qual : Str} {st : Stmt} {f c : Addr} {fd : FuncData} {N ps : List Str} {k : Nat} {sp : Sp} (F : Fun K x qual st f fd) (hc : fd.code = .ref c) (S : FnScope N ps (defScope st)) (len : ∀ vs H Q E, sp vs H Q E → vs.length = ps.length)
    (hbody : ∀ (A : Around) (outer : List Env) (s : Shared) (H : Hp) (vs : List V) (Q : VK) (E : XK), Room k (A.deeper (envOfC qual (defScope st) s.heap.objs.size f (.ref c))) → sp vs H Q E →
      ∃ t, PSs (cxOf CX0 P w K mg base N qual (defScope st) f (.ref c) A outer s H E).nox (defBody st) t ∧ t { nx := fun _ H' => Q .non H', rt := Q } (L2.start N vs) H) : FnOk P w K mg base CX0 (k + 1) f fd ps sp := by
  obtain ⟨oc, od, kV, doc, pm, an, cdv, ct, osl, rfl, lk, hcd⟩ := F.ex
  obtain rfl : cdv = .ref c := hc
  refine fn_of lk hcd S len fun A outer s H vs Q E hr hsp => ?_
  obtain ⟨t, h, q⟩ := hbody A outer s H vs Q E hr hsp
  exact ⟨t, h.nox, q⟩
/-- f(lambda: body), f the def that tries -/
theorem pe_try {X : Cx} {x a : Str} {st : Stmt} {g c P : Addr} {fdg : FuncData} {k : Nat} {Ng : List Str} {TT : (XK → Hp → VK → Prop) → Hp → VK → Prop} {params : Arguments} {body : Expr} {scope : Scope} {t : XK → TE} {p lpos pos : Pos} (Fg : Fun X.K x x st g fdg) (hm : X.mg x = some (.ref g)) (hb : Binds X.K fdg [a] []) (hg : Gl X x)
    (Sg : FnScope Ng [a] (defScope st)) (hNg : Ng[0]? = some a) (hva : Vis (defScope st) a) (hG : ∀ (cdg : Value), LamX.GivesTo X Ng x (defScope st) g cdg (defBody st) a (X.env.qual ++ "<lambda>") TT)
    (TB : LamX.TabB X.base X.mg c P) (hcode : X.env.code = .ref c) (hr : Room (k + 2) X.A) (L : LamX.LamS X.env.scope scope) (hdef : defaultsOf params X.env = ([], []))
    (hbind : ∀ (q : Str) (cl : List (Str × Addr)) (pm cv ctv : Value), bindArgs (PySem.W.kla_fn "<lambda>" q params body scope cl pm cv ctv) ⟨[], []⟩ = pure [])
    (hbody : ∀ (A : Around) (outer : List Env) (s : Shared) (H : Hp) (E : XK) (f c' : Addr), Room k (A.deeper (LamX.lamEnv X scope s.heap.objs.size f c')) → PE (LamX.lamCx X A outer s H E scope f c') body (t E))
    (hdb : (x == ("__debug__" : Str)) = false := by decide) (hd : (a == ("__debug__" : Str)) = false := by decide) (hcd : (a == ("__classdict__" : Str)) = false := by decide) :
    PE X (.Call (.Name x p) [.Lambda params body scope lpos] [] pos) (LamX.tLam [(P, X.env.qual ++ "<lambda>")] TT t) := by
  obtain ⟨oc, od, kV, doc, pm, an, cdv, ct, osl, rfl, lk, hco⟩ := Fg.ex
  exact LamX.pe_lamcall (T := [(P, X.env.qual ++ "<lambda>")]) hg hm Fg.kp lk hco hb Sg hNg hva (hG _) TB hcode (List.mem_singleton.mpr rfl) (fun p hp _ => by rw [List.mem_singleton.mp hp]) hr L hdef hbind hbody hdb hd hcd
end Th
/-! x in a tuple, x any datum -/
namespace L2
open PySem PySem.Spec PyProof.Rows
theorem hu65 {A : Around} {k : Nat} (hr : Room k A) : A.units + 65 < cLine := by
  have := hr.un
  omega
def rInT (K : PySem.W.Frag) (neg : Bool) : R2 := fun x y H Q => ∃ d ds, Dp K H x d ∧ Dp K H y (.tuple ds) ∧ SeqAt.shaped d = true ∧ SeqAt.shaped (.tuple ds) = true ∧ Q (.bl (if neg then !ds.any fun z => PyData.eqv z d else ds.any fun z => PyData.eqv z d)) H
section
variable {X : Cx}
theorem op_inT (hu : X.A.units + 65 < cLine) : OpR X (compareOp .In) (rInT X.K false) := by
  intro pins s σ H x y v u Q I rx ry h
  obtain ⟨d, ds, hd, he, sd, se, q⟩ := h
  obtain ⟨as, r1⟩ := Dp.reads I d x v hd rx
  obtain ⟨bs, r2⟩ := Dp.reads I (.tuple ds) y u he ry
  exact SeqAt.in_tuple_reads r2 r1 (SeqAt.canLay_of_shaped se) (SeqAt.canLay_of_shaped sd) (room_in_shaped sd hu) ⟨.bl _, H, I, rfl, q⟩
theorem op_notInT (hu : X.A.units + 65 < cLine) : OpR X (compareOp .NotIn) (rInT X.K true) := by
  intro pins s σ H x y v u Q I rx ry h
  obtain ⟨d, ds, hd, he, sd, se, q⟩ := h
  obtain ⟨as, r1⟩ := Dp.reads I d x v hd rx
  obtain ⟨bs, r2⟩ := Dp.reads I (.tuple ds) y u he ry
  exact SeqAt.notIn_tuple_reads r2 r1 (SeqAt.canLay_of_shaped se) (SeqAt.canLay_of_shaped sd) (room_in_shaped sd hu) ⟨.bl _, H, I, rfl, q⟩
end
end L2
namespace Th
open PySem PySem.Spec PyProof.Rows L2
/-- a datum is one of these texts -/
def inNm (d : PyData) (xs : List Str) : Bool := match d with
  | .str x => decide (x ∈ xs)
  | _ => false
theorem any_nm (d : PyData) (nd : tyD d ≠ "dict") : ∀ xs : List Str, ((xs.map PyData.str).any fun z => PyData.eqv z d) = inNm d xs
  | [] => by cases d <;> rfl
  | x :: r => by
    rw [List.map_cons, List.any_cons, any_nm d nd r]
    cases d with
    | dict kvs => exact absurd rfl nd
    | str y =>
      have e : PyData.eqv (.str x) (.str y) = decide (x = y) := by
        have e2 : (x == y) = decide (x = y) := by rw [Bool.eq_iff_iff, beq_iff_eq, decide_eq_true_eq]
        rw [← e2]
        simp [PyData.eqv]
      rw [e]
      show (decide (x = y) || decide (y ∈ r)) = decide (y ∈ x :: r)
      by_cases h : x = y
      · simp [h]
      · have h' : ¬ y = x := fun z => h z.symm
        simp [h, h']
    | none => simp [PyData.eqv, inNm]
    | bool b => simp [PyData.eqv, inNm]
    | int b => simp [PyData.eqv, inNm]
    | list b => simp [PyData.eqv, inNm]
    | tuple b => simp [PyData.eqv, inNm]
end Th
/-! own exceptions as values: made with any arguments, a field read, isinstance asked -/
namespace PySem
namespace HandSPX
open Builtin Builtin.ObjectAttr
section
variable {M : Model} {A : Around} {E : Value → Shared → Prop} {h : Heap} {g : Array GenState} {d : Drawn} {t : Nat} {os : OsState}
variable {nm q : Str} {C N : Addr} {bs bm bmB : List Value} {hdct : Bool} {sn : List Str} {sub : List Value} {ab : Bool} {col : Option Bool} {dd : Option Addr} {k0 k1 k2 k3 k5 : Option Value} {B newId initId : String}
theorem check_new_ownK (F : ExcBaseFacts B newId initId bmB) (hT : ∀ X : String, bm.contains (.type X) = bmB.contains (.type X)) {rest : List Value} {kw : List (Str × Value)} {Q : Unit → Shared → Prop}
    (hC : h.get? C = some (excClassObj nm q C N bs bm hdct sn sub ab col dd k0 k1 k2 k3 k5 newId)) (hq : Q () ⟨h, g, d, t, os⟩) : wpAny M A (checkBuiltinCall newId ⟨.ref C :: rest, kw⟩) Q E ⟨h, g, d, t, os⟩ := by
  have hcont : (Value.ref C :: bm).contains (.type B) = true := by rw [List.contains_cons, hT, F.hasB, Bool.or_true]
  have hstar := F.noStar
  simp only [checkBuiltinCall, F.newKind, F.newSplit, F.newRow]
  repeat (first | refine wpAny_loadPart_at hC ?_ | (refine wpAny_isSubtype_exc hC ?_; rw [hcont]) | refine wpAny_staticBase_exc hC ?_ | refine wpAny_madeBy_exc hC ?_ | simp only [bne_self_eq_false, Bool.false_eq_true, if_false] | wp_step)
  exact hq
end
section
variable {prog : Program} {w : World} {A : Around} {E : Value → Shared → Prop} {R : Result → Shared → Prop} {h : Heap} {g : Array GenState} {d : Drawn} {t : Nat} {os : OsState}
variable {nm q : Str} {C N : Addr} {bs bm bmB : List Value} {hdct : Bool} {sn : List Str} {sub : List Value} {ab : Bool} {col : Option Bool} {dd : Option Addr} {k0 k1 k2 k3 k5 : Option Value} {B newId initId : String}
theorem new_ownK (F : ExcBaseFacts B newId initId bmB) (hT : ∀ X : String, bm.contains (.type X) = bmB.contains (.type X)) {rest : List Value} {kw : List (Str × Value)}
    (hC : h.get? C = some (excClassObj nm q C N bs bm hdct sn sub ab col dd k0 k1 k2 k3 k5 newId))
    (hq : R (.ok (.ret (.ref (h.objs.size + 1)))) ⟨(h.push { cls := .type "tuple", data := .seq rest.toArray }).push
      { cls := .ref C, data := .fields #[.ref h.objs.size, .none, .none, .none, .bool false, .none] }, g, d, t, os⟩) (hrest : rest.length ≤ sizeLine) :
    codeAny (model prog w) A (.builtin newId ⟨.ref C :: rest, kw⟩) R ⟨h, g, d, t, os⟩ := by
  have hends := F.ends
  have hcB : (Value.ref C :: bm).contains (.type B) = true := by rw [List.contains_cons, hT, F.hasB, Bool.or_true]
  have hcA : (Value.ref C :: bm).contains (.type "AttributeError") = false := by rw [List.contains_cons, hT, F.noAttr]; rfl
  have hcN : (Value.ref C :: bm).contains (.type "NameError") = false := by rw [List.contains_cons, hT, F.noName]; rfl
  refine codeAny_builtinAt F.entry ?_
  unfold Builtin.«BaseException.__new__»
  refine wpAt_bind ?_
  show wpAt _ _ _ (stack >>= _) _ _ _
  refine wpAt_bind (wpAt_stack fun p below => wpAt_of_wpAny ?_)
  wp_walk
  refine wpAt_of_wpAny ?_
  rw [F.owner]
  repeat (first | with_reducible refine wpAny_madeHere_exc F.canon hC ?_ | with_reducible refine wpAny_loadPart_at hC ?_ | (with_reducible refine wpAny_isSubtype_exc hC ?_; first | rw [hcB] | rw [hcA] | rw [hcN]) | wp_step)
  show R _ _
  rw [Heap.size_push]
  exact hq
theorem type_call_ownK (F : ExcBaseFacts B newId initId bmB) (hT : ∀ X : String, bm.contains (.type X) = bmB.contains (.type X)) {rest : List Value} {kw : List (Str × Value)} {fI : Addr} {Q : Fin → Shared → Prop}
    (hC : h.get? C = some (excClassObj nm q C N bs bm hdct sn sub ab col dd k0 k1 k2 k3 k5 newId))
    (hi : W.Looks (model prog w) h (typeLookup (.ref C) "__init__") (some (.ref fI))) (hb : ∀ self, W.Looks (model prog w) h (bindSpecial (.ref fI) self) (.ref fI, [self])) (hrest : rest.length ≤ sizeLine)
    (hq : codeAny (model prog w) A (.call (.ref fI) ⟨.ref (h.objs.size + 1) :: rest, kw⟩)
      (fun r s' => match r with | .ok (.ret v) => v = .none ∧ Q (.done (.ret (.ref (h.objs.size + 1)))) s' | .ok _ => False | .error e => E e s')
      ⟨(h.push (W.kdv_tup rest)).push (excO C h.objs.size), g, d, t, os⟩) :
    wpAny (model prog w) A (Builtin.«type.__call__» ⟨.ref C :: rest, kw⟩) Q E ⟨h, g, d, t, os⟩ := by
  repeat (first | with_reducible refine wpAny_loadPart_at hC ?_ | with_reducible refine wpAny_madeBy_exc hC ?_ | wp_step)
  refine codeAny_call_builtin_code (Code.quiet_builtin _ F.quiet) (check_new_ownK F hT hC ?_)
  refine new_ownK F hT hC ?_ hrest
  show wpAny _ _ _ _ _ _
  have k : ∀ b o, h.get? b = some o → ((h.push (W.kdv_tup rest)).push (excO C h.objs.size)).get? b = some o := fun b o e => Heap.get?_push_of_some _ (Heap.get?_push_of_some _ e)
  have hC₁ := k _ _ hC
  have hget : ((h.push (W.kdv_tup rest)).push (excO C h.objs.size)).get? (h.objs.size + 1) = some (excO C h.objs.size) := by heap_get
  have hcC : (Value.ref C :: bm).contains (.ref C) = true := by simp
  have i1 := hi.keeps k
  have b1 := (hb (.ref (h.objs.size + 1))).keeps k
  unfold isInstance
  repeat (first | with_reducible refine wpAny_loadPart_at hget ?_ | (with_reducible refine wpAny_isSubtype_exc hC₁ ?_; rw [hcC]) | wp_step)
  show wpAny _ _ (typeLookup (.ref C) _) _ _ _
  refine i1.at ?_
  refine wpAny_holding (wpAny_bind (b1.at ?_))
  refine wpAny_bind (wpAny_call (codeAny_mono hq fun r s' z => ?_))
  rcases r with e | (v | _ | _ | _) <;> first | exact z | exact z.elim | skip
  obtain ⟨rfl, z⟩ := z
  first
    | exact wpAny_pure (wpAny_pure z)
    | (wp_walk; exact z)
theorem call_ownK (F : ExcBaseFacts B newId initId bmB) (hT : ∀ X : String, bm.contains (.type X) = bmB.contains (.type X)) {rest : List Value} {kw : List (Str × Value)} {fI : Addr}
    (hC : h.get? C = some (excClassObj nm q C N bs bm hdct sn sub ab col dd k0 k1 k2 k3 k5 newId))
    (hi : W.Looks (model prog w) h (typeLookup (.ref C) "__init__") (some (.ref fI))) (hb : ∀ self, W.Looks (model prog w) h (bindSpecial (.ref fI) self) (.ref fI, [self])) (hrest : rest.length ≤ sizeLine)
    (hq : codeAny (model prog w) (A.under (.builtin "type.__call__" ⟨.ref C :: rest, kw⟩)) (.call (.ref fI) ⟨.ref (h.objs.size + 1) :: rest, kw⟩) (W.InitBack (h.objs.size + 1) R)
      ⟨(h.push (W.kdv_tup rest)).push (excO C h.objs.size), g, d, t, os⟩) :
    codeAny (model prog w) A (.call (.ref C) ⟨rest, kw⟩) R ⟨h, g, d, t, os⟩ := by
  have f1 := tc_lookup
  have f2 := tc_bind (.ref C)
  have hTy : (⟨h, g, d, t, os⟩ : Shared).TypeIs (.ref C) "type" := ⟨_, hC, rfl⟩
  refine codeAny_of_tree ?_
  show wpAny _ _ (callAny (.ref C) _) _ _ _
  repeat (any_goals (first | assumption | with_reducible refine wpAny_loadPart_at hC ?_ | wp_step))
  refine ⟨rfl, ?_⟩
  refine codeAny_call_builtin_at (Code.quiet_builtin _ (by decide +kernel)) entry_typeCall (wpAny_check_type_call_sub hC (type_call_ownK F hT hC hi hb hrest ?_))
  refine codeAny_mono hq fun r s' z => ?_
  rcases r with e | (v | _ | _ | _) <;> exact z
end
end HandSPX
end PySem
namespace PySem.W
open PySem PySem.Spec PySem.Calls PyProof.Rows
section
variable {prog : Program} {w : World} {A : Around} {E : Value → Shared → Prop} {s : Shared} {K : Frag} {x D : Addr} {ox : Obj}
theorem findObj_dataV {C : Addr} {od : Option Obj} {name : Str} {a g : Value} (hc : (clsIn K C).isSome = true) (ha : findIn K (.ref C) name = some (some a)) (hg : specialIn K a "__get__" = some (some g)) (ht : takesIn K a = some true) : findObj K C od name = some (.bind g a) := by
  obtain ⟨cd, hc⟩ := Option.isSome_iff_exists.mp hc
  unfold findObj
  rw [hc, Option.bind_some, ha, Option.bind_some]
  simp [hg, ht]
theorem kin_classV {od : Option Obj} {Q : Option Value → Shared → Prop} (hga : findIn K (.ref D) "__getattribute__" = some (some (.builtin "BaseException.__getattribute__"))) (hgt : findIn K (.ref D) "__getattr__" = some none) (hsub : subIn K (.ref D) (.type "BaseException") = some true)
    (hdct : hasDictIn K D = true) (ha : findIn K (.ref D) "__class__" = some (some (.builtin "object.__class__")))
    (hn : specialIn K (.builtin "object.__class__") "__get__" = some (some (.builtin "getset_descriptor.__get__"))) (htk : takesIn K (.builtin "object.__class__") = some true) (hm : mroIn K D (.type "object") = some true)
    (X : K.In s.heap) (I : InstAt s.heap x ox D od) (h : Q (some (.ref D)) { s with toks := s.toks + 1 }) : wpAny (model prog w) A (getAttr? (.ref x) "__class__") Q E s := by
  have hf : findObj K D od "__class__" = some (.bind (.builtin "getset_descriptor.__get__") (.builtin "object.__class__")) := findObj_dataV (by obtain ⟨cd, hc, _⟩ := any_some hdct; rw [hc]; rfl) ha hn htk
  obtain ⟨hp, g, d, t, os⟩ := s
  have L0 := I.type (M := model prog w)
  have L1 := looks_findIn (M := model prog w) X hga
  have L2 := looks_findIn (M := model prog w) X hgt
  have L3 := looks_find (M := model prog w) X I hf
  have sub : Looks (model prog w) hp (isInstance (.ref x) (.type "BaseException")) true := L0.andThen (looks_subIn X hsub)
  have hx0 : (false && onTheHeap (Value.builtin "BaseException.__getattribute__")) = false := rfl
  have hx2 : (Value.builtin "BaseException.__getattribute__" == Value.builtin "object.__getattribute__") = false := by decide +kernel
  have hx1 : (onTheHeap (Value.ref D) && Value.builtin "BaseException.__getattribute__" == Value.builtin "object.__getattribute__") = false := by rw [hx2]; rfl
  unfold getAttr? getAttrBy? getAttrBy
  refine wpAny_bind (wpAny_mkText (wpAny_bind (wpAny_attempt (wpAny_holding (wpAny_bind (L0.at (wpAny_bind (L1.at ?_))))))))
  show wpAny _ _ (if (onTheHeap (Value.ref D) && Value.builtin "BaseException.__getattribute__" == Value.builtin "object.__getattribute__") = true then _ else _) _ _ _
  rw [hx1, if_neg Bool.false_ne_true]
  unfold getAttrByItsOwn hookBefore
  refine wpAny_bind ?_
  rw [if_pos (show onTheHeap (Value.ref D) = true from rfl)]
  refine L2.at ?_
  refine wpAny_bind (wpAny_attempt (wpAny_holding ?_))
  unfold callGetattribute
  rw [hx0, if_neg Bool.false_ne_true]
  unfold boundAndCalled
  rw [PySem.F.excAttr_ValueError.ga.bind (.ref x)]
  refine wpAny_bind (wpAny_pure ?_)
  show wpAny _ _ (call (.builtin "BaseException.__getattribute__") [.ref x, .str "__class__" t]) _ _ _
  refine wpAny_call (codeAny_call_builtin PySem.F.excAttr_ValueError.ga.plain PySem.F.entry_bexc_ga ?_)
  refine @check_slot (model prog w) _ _ ⟨hp, g, d, t + 1, os⟩ "BaseException.__getattribute__" "BaseException" "__getattribute__" (.ref x) [.str "__class__" t] [] _ (by decide +kernel) (by decide +kernel) sub (PySem.F.args_bexc_ga (.ref x) (.str "__class__" t)) ?_
  unfold Builtin.«object.__getattribute__»
  refine wpAny_bind (wpAny_of_eq (a := ((Value.ref x : Value), [Value.str "__class__" t])) (by first | rfl | (simp only [slotArgs]; rfl)) ?_)
  refine wpAny_bind (wpAny_pure (wpAny_bind (L0.at (wpAny_bind (L3.at ?_)))))
  show wpAny _ _ (holding [Value.builtin "object.__class__"] (call (.builtin "getset_descriptor.__get__") [.builtin "object.__class__", .ref x, .ref D]) >>= ret) _ _ _
  refine wpAny_bind (wpAny_holding (wpAny_call (class_get (s := ⟨hp, g, d, t + 1, os⟩) (ox := ox) (od := od) X I hm ?_)))
  refine wpAny_pure ?_
  show wpAny _ _ (handedOut (.ref D)) _ _ _
  rw [handedOut_of (v := .ref D) rfl]
  first
    | exact wpAny_pure (wpAny_pure h)
    | exact wpAny_pure h
    | exact wpAny_pure (wpAny_bind (wpAny_pure (wpAny_pure h)))
theorem handS_kitx_excV {od : Option Obj} (hga : findIn K (.ref D) "__getattribute__" = some (some (.builtin "BaseException.__getattribute__"))) (hgt : findIn K (.ref D) "__getattr__" = some none) (hsub : subIn K (.ref D) (.type "BaseException") = some true) (hdct : hasDictIn K D = true) (ha : findIn K (.ref D) "__class__" = some (some (.builtin "object.__class__")))
    (hn : specialIn K (.builtin "object.__class__") "__get__" = some (some (.builtin "getset_descriptor.__get__"))) (htk : takesIn K (.builtin "object.__class__") = some true) (hm : mroIn K D (.type "object") = some true) :
    KitX K (.ref x) (.ref D) (fun h => InstAt h x ox D od) where
  ty := fun _ _ _ I => I.type
  it := fun _ _ X _ => by
    obtain ⟨cdD, hcD, _⟩ := any_some hdct
    unfold clsIn at hcD
    split at hcD
    · rename_i c' d' cd' sl' ho
      intro A' Q' E' s' k q
      unfold isType loadHead
      exact wpAny_bind (wpAny_loadPart (k _ _ (X _ _ ho)) (wpAny_pure q))
    · cases hcD
  ne := fun h tp dd its n sl X htp => by
    obtain ⟨cdD, hcD, _⟩ := any_some hdct
    refine Bool.eq_false_iff.mpr fun q => ?_
    have e : D = tp := Value.ref.inj (beq_iff_eq.mp q)
    subst e
    unfold clsIn at hcD
    split at hcD
    · rename_i c' d' cd' sl' ho
      have z := (X _ _ ho).symm.trans htp
      cases z
    · cases hcD
  ca := fun X I k => kin_classV hga hgt hsub hdct ha hn htk hm X I k
end
end PySem.W
namespace L2
open PySem PySem.Spec PyProof.Rows
section
variable {X : Cx} {pins : List (Addr × Obj)} {σ : St} {H H1 : Hp} {s1 : Shared} {Q : VK} {C fI : Addr} {k : Nat} {fd : FuncData} {ps : List Str} {sp : Sp}
/-- an own exception is made: it stands, with its fields -/
theorem new_core {us us' : List Value} {kw : List (Str × Value)} {vs : List V} (T : ExG X.K C) (iC : PySem.W.findIn X.K (.ref C) "__init__" = some (some (.ref fI))) (tI : PySem.W.typeIn X.K (.ref fI) = some (.type "function"))
    (F1 : FnOk X.prog X.w X.K X.mg X.base CX0 k fI fd ps sp) (hr : Room (k + 1) X.A) (I1 : Inv X pins σ H1 s1) (hb : ∀ (s : Shared) (self : Value), X.K.In s.heap → (Value.ref 0 :: us').length = ps.length → BindsTo s fd ⟨self :: us, kw⟩ (ps.zip (self :: us'))) (r1 : Vals vs us')
    (want : us.length ≤ 1000 ∧ ∀ a, H1 a = none → sp (.ref a :: vs) (upd H1 a (exo a C none)) (fun v H2 => v = .non ∧ Q (.ref a) H2) E0) : wpAny (model X.prog X.w) X.A (call (.ref C) us kw) (EP X pins σ Q) X.xe s1 := by
  obtain ⟨hz, q1⟩ := want
  obtain ⟨B, newId, initId, bmB, FB, SF, ini, ov⟩ := T.over
  obtain ⟨nm, N, qn, bs, bm, hdct, sn, sub, ab, col, dd, k0, k1, k2, k3, k5, hC, hT⟩ := PySem.W.excInit_of I1.kIn ini
  obtain ⟨hp, g, dr, tk, os⟩ := s1
  have up1 : hp.objs.size ≤ (hp.objs.size + 1) := Nat.le_succ _
  have fr : H1 (hp.objs.size + 1) = none := I1.hok.fresh up1
  have got : ((hp.push (PySem.W.kdv_tup us)).push (PySem.HandSPX.excO C hp.objs.size)).get? (hp.objs.size + 1) = some (PySem.HandSPX.excO C hp.objs.size) := by heap_get
  have two : ∀ b o, hp.get? b = some o → ((hp.push (PySem.W.kdv_tup us)).push (PySem.HandSPX.excO C hp.objs.size)).get? b = some o := fun b o q => Heap.get?_push_of_some _ (Heap.get?_push_of_some _ q)
  have I2 := I1.laid (t' := tk) (a := (hp.objs.size + 1)) (o := exo (hp.objs.size + 1) C none) (h' := (hp.push (PySem.W.kdv_tup us)).push (PySem.HandSPX.excO C hp.objs.size)) two up1 (exo_ok got)
  have want := q1 (hp.objs.size + 1) fr
  have r2 : Vals (V.ref (hp.objs.size + 1) :: vs) (Value.ref (hp.objs.size + 1) :: us') := .cons rfl r1
  have len : (Value.ref (hp.objs.size + 1) :: us').length = ps.length := r2.length.symm.trans (F1.len _ _ _ _ want)
  have short : us.length ≤ sizeLine := by
    rw [sizeLine_eq]
    omega
  have hbb := hb _ (Value.ref (hp.objs.size + 1)) I2.kIn len
  have run := F1.run _ X.stack _ _ ⟨Value.ref (hp.objs.size + 1) :: us, kw⟩ (Value.ref (hp.objs.size + 1) :: us') _ _ E0 (hr.make C us kw) (I2.env0.make C us kw) hbb r2 want
  refine wpAny_call (PySem.HandSPX.call_ownK FB hT hC (PySem.W.looks_findIn I1.kIn iC) (fun self => PySem.W.bind_fn I1.kIn self tI) short (codeAny_mono run fun r s' z => ?_))
  cases r with
  | error er => exact z.elim
  | ok fl =>
    cases fl with
    | next => exact z.elim
    | brk => exact z.elim
    | cont => exact z.elim
    | ret u =>
      obtain ⟨v, H', I3, rv, ev, q⟩ := I2.after z
      subst ev
      exact ⟨rv, .ref (hp.objs.size + 1), H', I3, rfl, q⟩
/-- C(e, ..) as a value -/
def tNewV (C : Addr) (sp : Sp) (ta : TA) : TE := fun σ H Q => ta σ H fun vs H1 => vs.length ≤ 1000 ∧ ∀ a, H1 a = none → sp (.ref a :: vs) (upd H1 a (exo a C none)) (fun v H2 => v = .non ∧ Q (.ref a) H2) E0
theorem pe_newV {x : Str} {e : Expr} {es : List Expr} {ta : TA} {p pos : Pos} (T : ExG X.K C) (iC : PySem.W.findIn X.K (.ref C) "__init__" = some (some (.ref fI))) (tI : PySem.W.typeIn X.K (.ref fI) = some (.type "function"))
    (F1 : FnOk X.prog X.w X.K X.mg X.base CX0 k fI fd ps sp) (hr : Room (k + 1) X.A) (hb : Binds X.K fd ps []) (hg : Gl X x) (hm : X.mg x = some (.ref C)) (ha : PA X (e :: es) ta)
    (hdb : (x == ("__debug__" : Str)) = false := by decide) (he : starEach (e :: es) X.env = (false, eval e X.env) :: starEach es X.env := by rfl) (hpl : (backTo pos (starEach es X.env)).any (·.1) = false := by rfl) :
    PE X (.Call (.Name x p) (e :: es) [] pos) (tNewV C sp ta) := by
  constructor
  intro pins s σ H Q I h
  refine wpAny_Call_Name_kw (ld_glob I hg hm ?_ hdb)
  refine PySem.W.callWith_K (h₀ := X.base) I.ok.mod.kin T.kC (thn (ha.run pos pins s σ H _ I h) fun us s1 hu => ?_) he hpl
  obtain ⟨vs, H1, I1, r1, hz, q1⟩ := hu
  refine ⟨I1.kIn, new_core (us' := us) T iC tI F1 hr I1 (fun s self kin hl => ?_) r1 ⟨by show us.length ≤ 1000; rw [← Paired.length r1]; exact hz, q1⟩⟩
  have := hb s (self :: us) kin (by rw [List.append_nil]; exact hl)
  rw [List.append_nil] at this
  exact this
theorem pe_newV0 {x : Str} {p pos : Pos} (T : ExG X.K C) (iC : PySem.W.findIn X.K (.ref C) "__init__" = some (some (.ref fI))) (tI : PySem.W.typeIn X.K (.ref fI) = some (.type "function"))
    (F1 : FnOk X.prog X.w X.K X.mg X.base CX0 k fI fd ps sp) (hr : Room (k + 1) X.A) (hb : Binds X.K fd ps []) (hg : Gl X x) (hm : X.mg x = some (.ref C))
    (hdb : (x == ("__debug__" : Str)) = false := by decide) :
    PE X (.Call (.Name x p) [] [] pos) (tNewV C sp tNil) := by
  constructor
  intro pins s σ H Q I h
  refine wpAny_Call_Name_kw (ld_glob I hg hm ?_ hdb)
  refine PySem.W.callWith_K0 I.kIn T.kC ?_
  exact new_core (us' := []) (vs := []) T iC tI F1 hr I (fun s self kin hl => by
    have := hb s [self] kin (by rw [List.append_nil]; exact hl)
    rw [List.append_nil] at this
    exact this) .nil ⟨Nat.zero_le _, h.2⟩
/-- C(k = e, ..) as a value -/
theorem pe_newVK {x : Str} {kws : List Keyword} {ks : List Str} {tk : TA} {p pos : Pos} {g : List Value → List Value → List Value} {gV : List V → List V → List V} (T : ExG X.K C) (iC : PySem.W.findIn X.K (.ref C) "__init__" = some (some (.ref fI))) (tI : PySem.W.typeIn X.K (.ref fI) = some (.type "function"))
    (F1 : FnOk X.prog X.w X.K X.mg X.base CX0 k fI fd ps sp) (hr : Room (k + 1) X.A) (hb : ∀ (s : Shared) (self : Value) (ws : List Value), X.K.In s.heap → (Value.ref 0 :: g [] ws).length = ps.length → BindsTo s fd ⟨[self], ks.zip ws⟩ (ps.zip (self :: g [] ws)))
    (hrel : ∀ {vs : List V} {us : List Value} {zs : List V} {ws : List Value}, Vals vs us → Vals zs ws → Vals (gV vs zs) (g us ws)) (hg : Gl X x) (hm : X.mg x = some (.ref C))
    (hkw : PK X kws tk) (hall : (backToKw pos (keywordEach kws X.env)).all (·.1.isSome) = true := by rfl) (hks : (backToKw pos (keywordEach kws X.env)).filterMap (·.1) = ks := by rfl)
    (hdb : (x == ("__debug__" : Str)) = false := by decide) (hpl : ((backTo pos (starEach [] X.env)).any (·.1) || (backToKw pos (keywordEach kws X.env)).any (·.1.isNone)) = false := by rfl) :
    PE X (.Call (.Name x p) [] kws pos) (tNewV C sp fun σ H Q => tk σ H fun zs H1 => Q (gV [] zs) H1) := by
  constructor
  intro pins s σ H Q I h
  refine wpAny_Call_Name_kw (ld_glob I hg hm ?_ hdb)
  refine PySem.W.callWith_KW0 (h₀ := X.base) I.ok.mod.kin T.kC hall ?_ hpl
  refine thn (hkw.run pos pins s σ H _ I h) fun ws s2 ⟨zs, H2, I2, rz, q2⟩ => ⟨I2.kIn, ?_⟩
  rw [hks]
  exact new_core (us := []) (us' := g [] ws) T iC tI F1 hr I2 (fun s self kin hl => hb s self ws kin hl) (hrel .nil rz) ⟨Nat.zero_le _, q2.2⟩
/-- e.f, e an own exception -/
def tXfV (K : PySem.W.Frag) (f : Str) (te : TE) : TE := fun σ H Q => te σ H fun x H1 => ∃ (a C dd : Addr) (fs : List (Str × V)) (v : V), x = .ref a ∧ H1 a = some (exo a C (some dd)) ∧ H1 dd = some (exd dd fs) ∧ XfC K C ∧ PySem.W.findIn K (.ref C) f = some none ∧ fs.lookup f = some v ∧ Q v H1
theorem pe_xfV {e : Expr} {te : TE} {pos : Pos} {n : Str} (he : PE X e te) (hb : attributeBase e n X.env (eval e X.env) = eval e X.env := by rfl) : PE X (.Attribute e n pos) (tXfV X.K n te) := by
  constructor
  intro pins s σ H Q I h
  refine attr_of hb (thn (he.run pins s σ H _ I h) fun u s1 hu => ?_)
  obtain ⟨x, H1, I1, rx, a, C, dd, fs, v, rfl, ea, ed, T, nf, l, q⟩ := hu
  obtain rfl : u = Value.ref a := rx
  obtain ⟨t1, ho⟩ := exo_at I1.hok ea
  obtain ⟨mA, hns, rel⟩ := exd_at I1.hok ed
  obtain ⟨od, hod, hl⟩ := lookIn_ns hns
  obtain ⟨w, hw, rw⟩ := RelO.some_of (v := v) (o := mA n) (by rw [← l]; exact rel n)
  have J : PySem.W.InstAt s1.heap a _ C (some od) := ⟨ho, rfl, rfl, hod⟩
  exact HandSPX.exc_get I1.kIn J T.ga T.gg T.exC (PySem.W.findObj_own T.hdC nf rfl (by rw [hl, hw])) (handed_of rw) ⟨v, H1, I1.tok _, rw, q⟩
end
/-- isinstance(e, c), e an own exception -/
def rIsV (K : PySem.W.Frag) : List V → Hp → VK → Prop := fun xs H Q => ∃ (a C : Addr) (d : Option Addr) (c : V) (cv : Value) (b : Bool), xs = [.ref a, c] ∧ (∃ dd fs, d = some dd ∧ H dd = some (exd dd fs)) ∧ H a = some (exo a C d) ∧ ExcC K C ∧ (∀ u, RelV c u → u = cv) ∧ PySem.W.kitOne K (.ref C) cv = some b ∧ Q (.bl b) H
theorem call_isV {X : Cx} : CallR X (.builtin "isinstance") (rIsV X.K) := by
  intro pins s σ H xs us Q I r h
  obtain ⟨a, D, d, c, cv, b, rfl, ⟨dd, fs, rfl, ed⟩, ea, C, hcv, e, q⟩ := h
  cases r with
  | cons rx rr =>
    cases rr with
    | cons rt rr =>
      cases rr
      cases rx
      have ec := hcv _ rt
      subst ec
      obtain ⟨t1, ho⟩ := exo_at I.hok ea
      obtain ⟨mA, hns, rel⟩ := exd_at I.hok ed
      obtain ⟨od, hod, hl⟩ := lookIn_ns hns
      have J : PySem.W.InstAt s.heap a _ D (some od) := ⟨ho, rfl, rfl, hod⟩
      exact PySem.W.kia_one (PySem.W.handS_kitx_excV C.hg C.hk C.hs C.hd C.ha C.hn C.ht C.hm) I.kIn J e (fun z => nomatch z) fun tk => ⟨.bl b, H, I.kept (t' := tk) fun _ _ z => z, rfl, q⟩
end L2
namespace L2
open PySem PySem.Spec PyProof.Rows L2H
/-! ### try: body, except (x1, x2) as n: suite; nothing else flies -/

def wOne (K : PySem.W.Frag) (c1 : Value) (i : Nat) (ts : Addr → Value → Option Addr → TS) (D : Ends) : WX := fun cls d σ H => PySem.W.exmOne K cls c1 = some true ∧
  ∀ a, H a = none → i < σ.length → ts a cls d { nx := fun σ' H' => D.nx (σ'.set i none) H', rt := D.rt, bk := fun σ' H' => D.bk (σ'.set i none) H', ct := fun σ' H' => D.ct (σ'.set i none) H' } (σ.set i (some (.ref a))) H
section
variable {X : Cx} {x1 n : Str} {c1 : Value} {i : Nat} {body suite : List Stmt} {b₀ : Stmt} {q1 pos pos' : Pos} {tb : WX → TS} {ts : Addr → Value → Option Addr → TS}
theorem ps_try_one (hs : X.stack = X.env :: X.outer) (hf : X.env.frame = some X.env.locals) (hN : X.N.Nodup) (hi : X.N[i]? = some n) (hln : X.env.kindOf n = some .local)
    (g1 : Gl X x1) (d1 : (x1 == ("__debug__" : Str)) = false) (m1 : X.mg x1 = some c1)
    (hb : ∀ (W : WX) (pn : List (Addr × Obj)) (xe : Value → Shared → Prop), Takes (X.tr pn xe) W → PSs (X.tr pn xe) body (tb W))
    (hsu : ∀ (a : Addr) (oe : Obj) (cls : Value) (d : Option Addr) (pn : List (Addr × Obj)), Zc cls d oe → (∃ vs, oe.data = .fields vs) → PSs (X.suite a ((a, oe) :: pn)) (b₀ :: suite) (ts a cls d)) :
    PS X (.Try body [.ExceptHandler (some (.Name x1 q1)) (some n) (b₀ :: suite) pos'] [] [] pos) (fun D σ H => tb (wOne X.K c1 i ts D) D σ H) := by
  constructor
  intro pins s σ H D I h
  have ok := I.ok
  refine wpAny_Try_except (wpAny_mono ((hb (wOne X.K c1 i ts D) (X.pn ++ pins) _ ?tk).run [] s σ H D (I.toTry _) h) ?_ fun e s1 he => he)
  case tk =>
    rintro u s' ⟨a, B, sI, pins', σ', H', cls, d, rfl, J', nb, up, sky, na, os, ag, ex, want⟩
    have J : Inv X pins σ' H' sI := J'.ofTry ok
    have hfr : X.A.frames = some (X.env :: X.outer) := by rw [ok.frames, hs]
    rw [show (X.tr (X.pn ++ pins) _).stack = X.env :: X.outer from hs] at sky
    show wpAny (model X.prog X.w) X.A (noteFrame (.ref a) X.env) _ _ _
    refine Sky.land Zc.steady hfr hf sky fun h3 fl3 up3 => ?_
    have J3 : Inv X pins σ' H' { s' with heap := h3 } := J.landed nb fl3.1 (up.trans up3) os ag
    obtain ⟨oe3, vs3, he3, hz3, hd3⟩ := fl3.there
    -- the exception is no frame
    have off : a ∉ frs (X.env :: X.outer) := fun hm => by
      obtain ⟨_, o', e', hnf⟩ := fl3.2.2.1.mem hm
      rw [he3] at e'
      cases e'
      exact hnf _ hd3
    have nL : a ≠ X.env.locals := fun z => off (List.mem_filterMap.mpr ⟨X.env, List.mem_cons_self, by rw [hf, z]⟩)
    have nF : a ∉ X.fs := fun hm => by
      obtain ⟨e, he, q⟩ := List.mem_filterMap.mp hm
      exact off (List.mem_filterMap.mpr ⟨e, List.mem_cons_of_mem _ he, q⟩)
    have S3 := J3.suite he3 hd3 na nL nF
    refine PySem.W.exc_clause_as ?_
    refine ld_glob (X := X.suite a ((a, oe3) :: (X.pn ++ pins))) S3 g1 m1 ?_ d1
    have kp : ∀ q o, h3.get? q = some o → h3.get? q = some o := fun _ _ z => z
    have LT : PySem.W.Looks (model X.prog X.w) h3 (typeOf (.ref a)) cls := fun A Q E s k q => wpAny_typeOf_ref (k _ _ he3) (by rw [hz3.1]; exact q)
    refine ⟨true, PySem.W.exm_one (J3.kIn.keeps kp) (LT.keeps kp) ex, ?_⟩
    rw [if_pos rfl]
    have up3' := (up.trans up3).trans (Heap.UpToSlots.of_keeps kp)
    refine HandSPX.lands_againZ (PySem.XG.fly_on fl3 kp) fun h4 fl4 up4 => ?_
    have J4 : Inv X pins σ' H' { s' with heap := h4 } := J.landed nb fl4.1 (up3'.trans up4) os ag
    obtain ⟨oe4, vs4, he4, hz4, hd4⟩ := fl4.there
    have S4 := J4.suite he4 hd4 na nL nF
    refine store_ok (X := X.suite a ((a, oe4) :: (X.pn ++ pins))) (v := .ref a) S4 hN hi (.inl hln) rfl (fun s5 S5 => ?_) (.inr hln)
    refine wpAny_mono ((hsu a oe4 cls d (X.pn ++ pins) hz4 ⟨_, hd4⟩).run [] s5 _ H' _ S5 (want a na (by rw [J.len]; exact (List.getElem?_eq_some_iff.mp hi).1))) (fun f s6 hsp => ?_) fun _ _ z => False.elim z
    have gone : ∀ {σ6 : St} {H6 : Hp} {Q : Shared → Prop}, Inv (X.suite a ((a, oe4) :: (X.pn ++ pins))) [] σ6 H6 s6 → (∀ s7, Inv X pins (σ6.set i none) H6 s7 → Q s7) →
        wpAny (model X.prog X.w) X.A (do bindName X.env n .none; unbindBehindTheSuite X.env n pos') (fun _ s7 => Q s7) X.xe s6 := fun S6 hq => gone_ok (S6.unsuite ok) hN hi hln hq
    cases f with
    | ret u =>
      obtain ⟨v6, σ6, H6, S6, r6, q6⟩ := hsp
      exact gone S6 fun s7 J7 => ⟨_, _, _, J7, r6, q6⟩
    | next =>
      obtain ⟨σ6, H6, S6, q6⟩ := hsp
      exact gone S6 fun s7 J7 => ⟨_, _, J7, q6⟩
    | brk =>
      obtain ⟨σ6, H6, S6, q6⟩ := hsp
      exact gone S6 fun s7 J7 => ⟨_, _, J7, q6⟩
    | cont =>
      obtain ⟨σ6, H6, S6, q6⟩ := hsp
      exact gone S6 fun s7 J7 => ⟨_, _, J7, q6⟩
  · intro f s1 hsp
    cases f with
    | next =>
      obtain ⟨σ', H', J', q⟩ := hsp
      exact wpAny_execs_nil ⟨σ', H', J'.ofTry ok, q⟩
    | ret u =>
      obtain ⟨v, σ', H', J', r, q⟩ := hsp
      exact ⟨v, σ', H', J'.ofTry ok, r, q⟩
    | brk =>
      obtain ⟨σ', H', J', q⟩ := hsp
      exact ⟨σ', H', J'.ofTry ok, q⟩
    | cont =>
      obtain ⟨σ', H', J', q⟩ := hsp
      exact ⟨σ', H', J'.ofTry ok, q⟩
end
end L2
namespace Th
open PySem PySem.Spec PyProof.Rows L2
/-- an error class of the program, whatever catches it; st: its __init__ -/
structure ErrC0 (K : PySem.W.Frag) (mg : Str → Option Value) (x : Str) (qual : Str) (st : Stmt) (ps : List Str) (fns : List Str) (C fI : Addr) (fd : FuncData) : Prop where
  m : mg x = some (.ref C)
  g : ExG K C
  xf : XfC K C
  nf : ∀ f ∈ fns, PySem.W.findIn K (.ref C) f = some none
  ini : PySem.W.findIn K (.ref C) "__init__" = some (some (.ref fI))
  tI : PySem.W.typeIn K (.ref fI) = some (.type "function")
  F : Fun K "__init__" qual st fI fd
  b : Binds K fd ps []
def HasE0 (P : Program) (w : World) (K : PySem.W.Frag) (mg : Str → Option Value) (base : Heap) (x qual : Str) (st : Stmt) (ps fns : List Str) (k : Nat) (sp : Sp) : Prop :=
  ∃ (C fI : Addr) (fd : FuncData), ErrC0 K mg x qual st ps fns C fI fd ∧ FnOk P w K mg base CX0 k fI fd ps sp
theorem keepD_hidS {H H' : Hp} {S : Addr → Prop} (e : KeepD H H') : KeepD (hidS S H) (hidS S H') := fun b o h pl => by
  by_cases z : S b
  · rw [hidS_in z] at h; cases h
  · rw [hidS_out z] at h ⊢
    exact e b o h pl
end Th
namespace Th
open PySem PySem.Spec PyProof.Rows L2
theorem cs_in {mg : Str → Option Value} {cs : List (Str × Addr)} {es : List Str} (h : ∀ p ∈ cs, mg p.1 = some (.ref p.2)) (e : cs.map (·.1) = es) {n : Str} {C : Addr} (hn : n ∈ es) (hm : mg n = some (.ref C)) : (n, C) ∈ cs := by
  rw [← e] at hn
  obtain ⟨p, hp, rfl⟩ := List.mem_map.mp hn
  have z := (h p hp).symm.trans hm
  cases z
  exact hp
theorem kit_use {K : PySem.W.Frag} {mg : Str → Option Value} {cs : List (Str × Addr)} {es : List Str} (h : ∀ p ∈ cs, mg p.1 = some (.ref p.2)) (e : cs.map (·.1) = es) (x : (cs.all fun p => cs.all fun q => PySem.W.kitOne K (.ref p.2) (.ref q.2) == some (decide (p.1 = q.1))) = true)
    (n m : Str) (Cn Cm : Addr) (hn : n ∈ es) (hm : m ∈ es) (h1 : mg n = some (.ref Cn)) (h2 : mg m = some (.ref Cm)) : PySem.W.kitOne K (.ref Cn) (.ref Cm) = some (decide (n = m)) :=
  eq_of_beq (List.all_eq_true.mp (List.all_eq_true.mp x _ (cs_in h e hn h1)) _ (cs_in h e hm h2))
theorem kit_to {K : PySem.W.Frag} {mg : Str → Option Value} {cs : List (Str × Addr)} {es : List Str} {t : Value} {f : Str → Bool} (h : ∀ p ∈ cs, mg p.1 = some (.ref p.2)) (e : cs.map (·.1) = es) (x : (cs.all fun p => PySem.W.kitOne K (.ref p.2) t == some (f p.1)) = true)
    (n : Str) (C : Addr) (hn : n ∈ es) (h1 : mg n = some (.ref C)) : PySem.W.kitOne K (.ref C) t = some (f n) := eq_of_beq (List.all_eq_true.mp x _ (cs_in h e hn h1))
def excB (K : PySem.W.Frag) (D : Addr) : Bool := decide (PySem.W.findIn K (.ref D) "__getattribute__" = some (some (.builtin "BaseException.__getattribute__"))) && (decide (PySem.W.findIn K (.ref D) "__getattr__" = some none) && (decide (PySem.W.subIn K (.ref D) (.type "BaseException") = some true) && (PySem.W.hasDictIn K D && (decide (PySem.W.findIn K (.ref D) "__class__" = some (some (.builtin "object.__class__"))) && (decide (PySem.W.specialIn K (.builtin "object.__class__") "__get__" = some (some (.builtin "getset_descriptor.__get__"))) && (decide (PySem.W.takesIn K (.builtin "object.__class__") = some true) && decide (PySem.W.mroIn K D (.type "object") = some true)))))))
theorem excB_ok {K : PySem.W.Frag} {D : Addr} (h : excB K D = true) : ExcC K D := by
  unfold excB at h
  simp only [Bool.and_eq_true, decide_eq_true_eq] at h
  obtain ⟨h1, h2, h3, h4, h5, h6, h7, h8⟩ := h
  exact ⟨h1, h2, h3, h4, h5, h6, h7, h8⟩
end Th
/-! for i, x in enumerate(t), t a tuple -/
namespace PySem
namespace XG
open Sem (wp)
abbrev enumO (it : Addr) : Obj := { cls := .type "enumerate", data := .fields #[.none, .bool false, .ref it, rawInt 0, .none, .none] }
theorem meets_enum1 {v : Value} {o : Obj} {H : Heap → Prop} (B : Begins v o H) :
    Meets (Builtin.«enumerate.__new__» ⟨[.type "enumerate", v], []⟩) (fun _ R s => H s.heap ∧ R (.ok (.ret (.ref (s.heap.push o).objs.size))) { s with heap := (s.heap.push o).push (enumO s.heap.objs.size) }) :=
  .of_wp fun prog w A R s hh => by
    obtain ⟨hp, g, d, tk, os⟩ := s
    obtain ⟨h0, hr⟩ := hh
    have hsub := sub_enumerate
    have starts : ∀ {A' : Around} {E : Value → Shared → Prop} {Q : Value → Shared → Prop}, Q (.ref hp.objs.size) ⟨hp.push o, g, d, tk, os⟩ → wpAny (model prog w) A' (pyIter v) Q E ⟨hp, g, d, tk, os⟩ := fun q => B.iter prog w _ _ ⟨hp, g, d, tk, os⟩ _ h0 q
    wp_walk using starts
    refine wpAny_stack_any fun st => wpAny_pure ?_
    split
    case h_1 c _ _ _ _ _ =>
      cases (c == Value.type "enumerate") <;> (wp_walk using starts; exact ⟨_, rfl, hr⟩)
    case h_2 =>
      wp_walk using starts
      exact ⟨_, rfl, hr⟩
theorem call_enum1 {prog : Program} {w : World} {A : Around} {E : Value → Shared → Prop} {s : Shared} {v : Value} {o : Obj} {H : Heap → Prop} {Q : Value → Shared → Prop} (B : Begins v o H) (h0 : H s.heap)
    (h : ∀ h', IsEnum h' (s.heap.objs.size + 1) s.heap.objs.size 0 .none → h'.get? s.heap.objs.size = some o → (∀ b u, s.heap.get? b = some u → h'.get? b = some u) → Q (.ref (s.heap.objs.size + 1)) { s with heap := h' }) :
    wpAny (model prog w) A (call (.type "enumerate") [v]) Q E s := by
  refine callType_new F.called_enumerate (by decide) (F.typeCall_enumerate_1 _) (F.newCall_enumerate_1 _) (fun obj => F.args_object_init_2 obj _) F.entry_enumerate_new (meets_enum1 B) ⟨h0, ?_⟩
  have size : (s.heap.push o).objs.size = s.heap.objs.size + 1 := Heap.size_push ..
  have en : ((s.heap.push o).push (enumO s.heap.objs.size)).get? (s.heap.objs.size + 1) = some (enumO s.heap.objs.size) := by
    rw [← size]
    exact Heap.get?_push_size (s.heap.push o) (o := enumO s.heap.objs.size) rfl
  show _ ∧ _
  rw [size]
  exact ⟨⟨_, en, rfl⟩, h _ en (Heap.get?_push_of_some _ (Heap.get?_push_size _ B.free)) fun b u q => Heap.get?_push_of_some _ (Heap.get?_push_of_some _ q)⟩
end XG
end PySem
namespace L2
open PySem PySem.Spec PyProof.Rows
/-- the tuple at a, each item in a new pair with its place -/
def IteT (K : PySem.W.Frag) (a : Addr) : It :=
  ⟨fun i H => ∃ (xs : List V) (x : V), SqT K H a xs ∧ xs[i]? = some x, fun i H v H' => ∃ T x, v = .ref T ∧ H T = none ∧ H' = upd H T (.tup [.int (i : Nat), x]) ∧ ∀ xs, SqT K H a xs → xs[i]? = some x, fun i H => ∃ xs : List V, SqT K H a xs ∧ xs.length = i⟩
theorem turn_enumT {P : Program} {w : World} {K : PySem.W.Frag} {elts : List Expr} {kk : Nat} {tpos : Pos} (a e it : Addr) :
    Turn P w K (.Tuple elts kk tpos) (IteT K a) [e, it] e (fun i h => (∃ old, IsEnum h e it ((i : Nat) : Int) old) ∧ h.IsTupleIter it a i ∧ e ≠ it) where
  mem := List.mem_cons_self
  obj := fun i h st b hb => by
    obtain ⟨⟨old, he⟩, ⟨o, ho, _, hd⟩, _⟩ := st
    rcases List.mem_cons.mp hb with z | z
    · rw [z]
      exact ⟨_, he, fun v q => nomatch q⟩
    · rw [List.mem_singleton.mp z]
      exact ⟨o, ho, fun v q => by rw [hd] at q; cases q⟩
  keep := fun i h h' st k => by
    obtain ⟨⟨old, he⟩, hi, ne⟩ := st
    exact ⟨⟨old, k e (by simp) _ he⟩, hi.at fun o q => k it (by simp) o q, ne⟩
  item := by
    rintro X rfl rfl rfl hc i pins s σ H E I hf ⟨⟨old, he⟩, hit, ne⟩ ⟨xs, x, hq, hx⟩
    obtain ⟨its, rv, p, hz⟩ := I.tuple hq
    obtain ⟨u, hu, ru⟩ := rv.get hx
    have le : e < s.heap.objs.size := Heap.lt_size he
    have li : it < s.heap.objs.size := let ⟨_, q, _⟩ := hit; Heap.lt_size q
    have hT : s.heap.IsTuple a its.toArray := p
    have ait : a ≠ it := fun z => by
      obtain ⟨o1, q1, c1, _⟩ := hit
      obtain ⟨o2, q2, c2, _⟩ := hT
      rw [z, q1] at q2
      cases q2
      have c3 : Value.type "tuple_iterator" = Value.type "tuple" := c1.symm.trans c2
      exact absurd c3 (by decide)
    have aE : e ∉ [it, a] := fun z => by
      rcases List.mem_cons.mp z with z | z
      · exact ne z
      · rw [List.mem_singleton.mp z] at he
        obtain ⟨o2, q2, c2, _⟩ := hT
        rw [he] at q2
        cases q2
        have c3 : Value.type "enumerate" = Value.type "tuple" := c2
        exact absurd c3 (by decide)
    refine wpAny_pyNext_enum_itemD (Draws.tuple (prog := X.prog) (w := X.w) (A := X.A.in1) (show X.A.in1.handled = none from I.ok.hd hc) it a ait its.toArray) he ⟨hit, hT⟩ (by have := (List.getElem?_eq_some_iff.mp hu).1; simpa using this) ne aE fun y h' tk hy ho hs2 hnew hsz hk => ?_
    have ey : y = u := by
      have z1 : its.toArray[i]? = some y := hy
      have z2 : its.toArray[i]? = some u := by simpa using hu
      rw [z1] at z2
      exact Option.some.inj z2
    subst ey
    refine ⟨_, rfl, wpAny_letOwnedTupleGo_enum (s := { s with heap := h', toks := tk + 1 }) ho fun h2 he2 sb => ?_⟩
    have stands : h2.get? s.heap.objs.size = some { cls := .type "tuple", data := .seq #[.int i tk, y] } := (sb.2 _ (Nat.ne_of_gt le)).trans hnew
    have new : ObjOk X.prog X.w (upd H s.heap.objs.size (.tup [.int (i : Nat), x])) h2 s.heap.objs.size (.tup [.int (i : Nat), x]) :=
      ⟨by show 2 ≤ sizeLine; decide, [.int i tk, y], .cons ⟨_, rfl⟩ (.cons ru .nil), ⟨_, stands, rfl, _, rfl⟩⟩
    have fresh : H s.heap.objs.size = none := I.hok.fresh (Nat.le_refl _)
    have I1 : Inv X pins σ (upd H s.heap.objs.size (.tup [.int (i : Nat), x])) { s with heap := h2, toks := tk + 1 } :=
      I.turnedNew (ch := [e, it]) (fun b ob hb q => (sb.2 b (fun z => hb (by simp [z]))).trans (hk b ob (fun z => hb (by simp [z])) (fun z => hb (by simp [z])) q)) hf (Nat.le_refl _) new
    refine ⟨.ref s.heap.objs.size, _, I1, rfl, ⟨_, x, rfl, fresh, rfl, fun ys hy2 => ?_⟩, ⟨⟨y, ?_⟩, ?_, ne⟩, fun b hb => ?_⟩
    · rw [I.tuple_inj hy2 hq]
      exact hx
    · rw [show ((i + 1 : Nat) : Int) = (i : Int) + 1 by omega]
      exact he2
    · exact hs2.1.at fun o q => (sb.2 it (Ne.symm ne)).trans q
    · have lb : b < s.heap.objs.size := by
        rcases List.mem_cons.mp hb with z | z
        · rw [z]; exact le
        · rw [List.mem_singleton.mp z]; exact li
      rw [upd_ne (Nat.ne_of_lt lb)]
      exact (hf b hb).1
  done := by
    rintro X rfl rfl rfl hc i pins s σ H E I hf ⟨⟨old, he⟩, hit, ne⟩ ⟨xs, hq, hx⟩
    obtain ⟨its, rv, p, hz⟩ := I.tuple hq
    have hT : s.heap.IsTuple a its.toArray := p
    have hl : i = its.toArray.size := by rw [← hx, rv.length, List.size_toArray]
    obtain ⟨f0, f1, f2, f3, f4, f5⟩ := hf it (by simp)
    have ait : a ≠ it := fun z => by
      obtain ⟨o1, q1, c1, _⟩ := hit
      obtain ⟨o2, q2, c2, _⟩ := hT
      rw [z, q1] at q2
      cases q2
      have c3 : Value.type "tuple_iterator" = Value.type "tuple" := c1.symm.trans c2
      exact absurd c3 (by decide)
    rw [hl] at he hit
    exact wpAny_pyNext_enum_endD (Draws.tuple (prog := X.prog) (w := X.w) (A := X.A.in1) (show X.A.in1.handled = none from I.ok.hd hc) it a ait its.toArray) he ⟨hit, hT⟩ fun h' eb => ⟨rfl, I.turned (t' := s.toks) (fun b o hb q => eb b o hb q) f0 f1 f3 f4 f5⟩
  self := fun A i s Q E st h => let ⟨⟨_, he⟩, _⟩ := st; wpAny_pyIter_enum he h
def iEnumT (K : PySem.W.Frag) (ta : TA) : TI := fun σ H R => ta σ H fun vs H1 => ∃ a xs, vs = [.ref a] ∧ ((SqL K H1 a xs ∧ R (Ite K a) H1) ∨ (SqT K H1 a xs ∧ R (IteT K a) H1))
/-- enumerate of a list or a tuple -/
theorem pi_enumLT {X : Cx} {e : Expr} {ta : TA} {p pos tpos : Pos} {elts : List Expr} {kk : Nat} (hg : Gl X "enumerate") (hm : X.mg "enumerate" = none) (ha : PA X [e] ta) (hs : starEach [e] X.env = [(false, eval e X.env)] := by rfl) :
    PI X (.Tuple elts kk tpos) (.Call (.Name "enumerate" p) [e] [] pos) (iEnumT X.K ta) := by
  constructor
  intro pins s σ H R I h
  refine Call_ (ld_blt I hg hm boot_enumerate (PyProof.Rows.callWith_type1 (thn (ha.run pos pins s σ H _ I h) fun us s1 hu => ?_) hs rfl))
  obtain ⟨vs, H1, I1, r1, a, xs, ex, q⟩ := hu
  subst ex
  rw [Vals.ref1 r1]
  have new : ∀ b ∈ [s1.heap.objs.size + 1, s1.heap.objs.size], s1.heap.objs.size ≤ b := fun b hb => by
    rcases List.mem_cons.mp hb with z | z
    · rw [z]; exact Nat.le_add_right _ _
    · rw [List.mem_singleton.mp z]; exact Nat.le_refl _
  rcases q with ⟨hq, q⟩ | ⟨hq, q⟩
  · obtain ⟨its, rv, p', hz⟩ := I1.list hq
    refine call_enumerate_list p'.isList fun h' he hit hsz hk => wpAny_pyIter_enum he ?_
    exact ⟨s1.heap.objs.size + 1, [s1.heap.objs.size + 1, s1.heap.objs.size], _, _, H1, rfl, I1.kept (t' := s1.toks) hk, turn_enum a (s1.heap.objs.size + 1) s1.heap.objs.size, ⟨⟨.none, he⟩, hit, Nat.succ_ne_self _⟩, fun b hb => I1.fpOk (new b hb) (I1.hok.fresh (new b hb)), q⟩
  · obtain ⟨its, rv, p', hz⟩ := I1.tuple hq
    have hT : s1.heap.IsTuple a its.toArray := p'
    refine PySem.XG.call_enum1 (begins_tuple a its.toArray) hT fun h' he hit hk => wpAny_pyIter_enum he ?_
    exact ⟨s1.heap.objs.size + 1, [s1.heap.objs.size + 1, s1.heap.objs.size], _, _, H1, rfl, I1.kept (t' := s1.toks) hk, turn_enumT a (s1.heap.objs.size + 1) s1.heap.objs.size, ⟨⟨.none, he⟩, ⟨_, hit, rfl, rfl⟩, Nat.succ_ne_self _⟩, fun b hb => I1.fpOk (new b hb) (I1.hok.fresh (new b hb)), q⟩
end L2
namespace L2
open PySem PySem.Spec PyProof.Rows
theorem walk_enumT {K : PySem.W.Frag} {a : Addr} {xs : List V} : Walk (IteT K a) xs.length (fun H => SqT K H a xs) (YPair (fun i => some (.int (i : Nat))) (fun i => xs[i]?)) where
  goes := fun i H hi h => ⟨xs, xs[i], h, List.getElem?_eq_getElem hi⟩
  stops := fun H h => ⟨xs, h, rfl⟩
  yields := fun i H v H' hi h y => by
    obtain ⟨T, x, e1, e2, e3, e4⟩ := y
    exact ⟨T, _, x, e1, e2, e3, rfl, e4 xs h⟩
end L2
/-! tuples cut and joined, with one way on -/
namespace Th
open PySem PySem.Spec PyProof.Rows L2
/-- a tuple, its type known -/
def TupAt (K : PySem.W.Frag) (H : Hp) (a : Addr) (xs : List V) : Prop := SqT K H a xs ∧ TyX K H (.ref a) (.type "tuple")
theorem TupAt.to {K : PySem.W.Frag} {H H' : Hp} {a : Addr} {xs : List V} (h : TupAt K H a xs) (s : Same H H') : TupAt K H' a xs := ⟨same_t s h.1, ty_same s h.2⟩
theorem TupAt.new {K : PySem.W.Frag} {H : Hp} {a : Addr} {xs : List V} : TupAt K (upd H a (.tup xs)) a xs := ⟨.inl (.inl upd_same), .base (.tup upd_same)⟩
theorem TupAt.bare {K : PySem.W.Frag} {H : Hp} {a : Addr} {xs : List V} (h : BareT H a xs) : TupAt K H a xs := ⟨h.sq, bare_ty h⟩
theorem TupAt.da {K : PySem.W.Frag} {H : Hp} {a : Addr} {xs : List V} {ds : List PyData} (h : TupAt K H a xs) (r : DaAll K H xs ds) : Da K H (.ref a) (.tuple ds) := .tup h.1 h.2 r
theorem cutV_whole {xs : List V} {lo hi : Option Int} (h : HT.sIx xs.length 0 lo = 0 ∧ HT.sIx xs.length xs.length hi = xs.length) : cutV xs lo hi = xs := by
  unfold cutV
  rw [h.1, h.2, List.drop_zero, Nat.sub_zero, List.take_length]
/-- t[lo:hi] -/
def rSlD (K : PySem.W.Frag) : V → Option Int → Option Int → Hp → VK → Prop := fun x lo hi H Q => ∃ a xs, x = .ref a ∧ TupAt K H a xs ∧ ∀ r H', Same H H' → (r = a ∨ H r = none) → TupAt K H' r (cutV xs lo hi) → Q (.ref r) H'
theorem sl_tupD {X : Cx} : SlR X (rSlD X.K) := by
  intro pins s σ H x v vl vu lo hi sl Q I rx hs pl pu h
  obtain ⟨a, xs, rfl, ha, q⟩ := h
  exact sl_tupA pins s σ H _ v vl vu lo hi sl Q I rx hs pl pu ⟨a, xs, rfl, ha.1, fun w => q a H (Same.refl H) (.inl rfl) (by rw [cutV_whole w]; exact ha), fun _ p np => q p _ (same_new np) (.inr np) .new⟩
/-- t + u -/
def rCatD (K : PySem.W.Frag) : R2 := fun x y H Q => ∃ a b xs ys, x = .ref a ∧ y = .ref b ∧ TupAt K H a xs ∧ TupAt K H b ys ∧ xs.length + ys.length ≤ sizeLine ∧ ∀ r H', Same H H' → (r = a ∨ r = b ∨ H r = none) → TupAt K H' r (xs ++ ys) → Q (.ref r) H'
theorem op_catD {X : Cx} : OpR X (binaryOp .Add) (rCatD X.K) := by
  intro pins s σ H x y v u Q I rx ry h
  obtain ⟨a, b, xs, ys, rfl, rfl, ha, hb, hz, q⟩ := h
  refine op_catA pins s σ H _ _ v u Q I rx ry ⟨a, b, xs, ys, rfl, rfl, ha.1, hb.1, hz, fun e => ?_, fun _ e => ?_, fun _ _ p np => q p _ (same_new np) (.inr (.inr np)) .new⟩
  · exact q b H (Same.refl H) (.inr (.inl rfl)) (by rw [e]; exact hb)
  · exact q a H (Same.refl H) (.inl rfl) (by rw [e, List.append_nil]; exact ha)
theorem ty_hid {K : PySem.W.Frag} {p : Addr} {H : Hp} {v : V} {t : Value} (n : v ≠ .ref p) (h : TyX K H v t) : TyX K (hid p H) v t := by
  have k : ∀ {a : Addr} {o : HO}, v = .ref a → H a = some o → hid p H a = some o := fun e h => by
    rw [hid_ne (fun z => n (by rw [e, z]))]
    exact h
  cases h with
  | byt b => exact .byt b
  | kList h c => exact .kList h c
  | kTuple h c => exact .kTuple h c
  | kDict h c => exact .kDict h c
  | set h => exact .set (k rfl h)
  | fTuple h => exact .fTuple (k rfl h)
  | fDict h => exact .fDict (k rfl h)
  | base b =>
    refine .base ?_
    cases b with
    | non => exact .non
    | bl x => exact .bl x
    | int i => exact .int i
    | str x => exact .str x
    | flt x => exact .flt x
    | lst h => exact .lst (k rfl h)
    | frz h => exact .frz (k rfl h)
    | tup h => exact .tup (k rfl h)
    | dK h => exact .dK (k rfl h)
    | dT h => exact .dT (k rfl h)
    | ins h cl ha hn htk hm => exact .ins (k rfl h) cl ha hn htk hm
theorem TupAt.hid {K : PySem.W.Frag} {p a : Addr} {H : Hp} {xs : List V} (h : TupAt K H a xs) (n : a ≠ p) : TupAt K (hid p H) a xs := by
  refine ⟨?_, ty_hid (fun z => n (V.ref.inj z)) h.2⟩
  rcases h.1 with (h | ⟨o, h⟩) | h
  · exact .inl (.inl (by rw [hid_ne n]; exact h))
  · exact .inl (.inr ⟨o, by rw [hid_ne n]; exact h⟩)
  · exact .inr h
theorem TupAt.go {K : PySem.W.Frag} {D : DS} {a : Addr} {H H' : Hp} {xs : List V} (h : TupAt K H a xs) (n : a ≠ D.p) (g : Go D H H') : TupAt K H' a xs := ((h.hid n).to g.sm).to hid_same
theorem ne_or {D : DS} {H : Hp} {r a : Addr} (d : Drw D H) (o : r = a ∨ H r = none) (n : a ≠ D.p) : r ≠ D.p := o.elim (fun e => by rw [e]; exact n) d.ne_new
theorem ne_or3 {D : DS} {H : Hp} {r a b : Addr} (d : Drw D H) (o : r = a ∨ r = b ∨ H r = none) (n : a ≠ D.p) (m : b ≠ D.p) : r ≠ D.p := o.elim (fun e => by rw [e]; exact n) fun o => ne_or d o m
/-- names as values -/
def NmV (n : Nat) (vs : List V) : Prop := ∃ zs : List Str, vs = zs.map V.str ∧ (∀ z ∈ zs, isNm z = true) ∧ zs.length ≤ n
theorem NmV.cut {n : Nat} {vs : List V} (h : NmV n vs) (lo hi : Option Int) : NmV n (cutV vs lo hi) := by
  obtain ⟨zs, rfl, a, b⟩ := h
  obtain ⟨ws, e, c, d⟩ := cut_strs zs lo hi
  exact ⟨ws, e, fun z hz => a z (c z hz), Nat.le_trans d b⟩
theorem NmV.app {n m : Nat} {vs us : List V} (h : NmV n vs) (k : NmV m us) : NmV (n + m) (vs ++ us) := by
  obtain ⟨zs, rfl, a, b⟩ := h
  obtain ⟨ws, rfl, c, d⟩ := k
  refine ⟨zs ++ ws, by rw [List.map_append], fun z hz => ?_, by rw [List.length_append]; omega⟩
  rcases List.mem_append.mp hz with m | m
  · exact a z m
  · exact c z m
theorem NmV.rev {n : Nat} {vs : List V} (h : NmV n vs) : NmV n vs.reverse := by
  obtain ⟨zs, rfl, a, b⟩ := h
  exact ⟨zs.reverse, by rw [List.map_reverse], fun z hz => a z (List.mem_reverse.mp hz), by rw [List.length_reverse]; exact b⟩
theorem NmV.one {x : Str} (h : isNm x = true) : NmV 1 [.str x] := ⟨[x], rfl, fun z hz => by rw [List.mem_singleton.mp hz]; exact h, Nat.le_refl 1⟩
theorem NmV.len {n : Nat} {vs : List V} (h : NmV n vs) : vs.length ≤ n := by
  obtain ⟨zs, rfl, _, b⟩ := h
  rw [List.length_map]
  exact b
/-- an item at a place of any sign -/
theorem NmV.at {n : Nat} {vs : List V} (h : NmV n vs) {i : Int} (h0 : -(vs.length : Int) ≤ i) (h1 : i < vs.length) : ∃ y, isNm y = true ∧ atI vs i = some (.str y) := by
  obtain ⟨zs, rfl, a, _⟩ := h
  rw [List.length_map] at h0 h1
  obtain ⟨j, hj, e⟩ : ∃ j, j < zs.length ∧ ixN (zs.map V.str).length i = some j := by
    rw [List.length_map]
    unfold ixN
    by_cases z : 0 ≤ i
    · exact ⟨i.toNat, by omega, by rw [if_pos z, if_pos h1]⟩
    · exact ⟨(i + zs.length).toNat, by omega, by rw [if_neg z, if_pos h0]⟩
  refine ⟨zs[j], a _ (List.getElem_mem hj), ?_⟩
  unfold atI
  rw [e]
  show (zs.map V.str)[j]? = _
  rw [List.getElem?_map, List.getElem?_eq_getElem hj]
  rfl
end Th
/-! a walk over a list or a tuple; the first place -/
namespace Th
open PySem PySem.Spec PyProof.Rows L2
def iLT (K : PySem.W.Frag) (tl : TE) : TI := fun σ H R => tl σ H fun x H1 => ∃ a xs, x = .ref a ∧ ((SqL K H1 a xs ∧ R (Itl K a) H1) ∨ (SqT K H1 a xs ∧ R (Itt K a) H1))
theorem pi_LT {X : Cx} {tg l : Expr} {tl : TE} (hl : PE X l tl) : PI X tg l (iLT X.K tl) := by
  constructor
  intro pins s σ H R I h
  refine thn (hl.run pins s σ H _ I h) ?_
  rintro v s1 ⟨x, H1, J, r1, a, xs, rfl, q⟩
  obtain rfl : v = Value.ref a := r1
  have fp : ∀ b ∈ [s1.heap.objs.size], s1.heap.objs.size ≤ b := fun b hb => by rw [List.mem_singleton.mp hb]; exact Nat.le_refl _
  rcases q with ⟨hq, q⟩ | ⟨hq, q⟩
  · obtain ⟨its, rv, p, hz⟩ := J.list hq
    refine wpAny_pyIter_list p.isList ?_
    exact ⟨s1.heap.objs.size, [s1.heap.objs.size], _, _, H1, rfl, J.kept (t' := s1.toks) fun b o e => Heap.get?_push_of_some _ e, turn_list a _, ⟨_, Heap.get?_push_size _ rfl, rfl, rfl⟩, fun b hb => J.fpOk (fp b hb) (J.hok.fresh (fp b hb)), q⟩
  · obtain ⟨its, rv, p, hz⟩ := J.tuple hq
    refine wpAny_pyIter_tuple (show s1.heap.IsTuple a its.toArray from p) ?_
    exact ⟨s1.heap.objs.size, [s1.heap.objs.size], _, _, H1, rfl, J.kept (t' := s1.toks) fun b o e => Heap.get?_push_of_some _ e, turn_tuple a _, ⟨_, Heap.get?_push_size _ rfl, rfl, rfl⟩, fun b hb => J.fpOk (fp b hb) (J.hok.fresh (fp b hb)), q⟩
/-- the first place where p holds -/
def firstIx (p : Nat → Bool) (n : Nat) : Option Nat := (List.range n).find? p
theorem firstIx_some {p : Nat → Bool} {n k : Nat} (hk : k < n) (h : p k = true) (a : ∀ j, j < k → p j = false) : firstIx p n = some k := by
  unfold firstIx
  rw [List.find?_range_eq_some]
  exact ⟨h, List.mem_range.mpr hk, fun j hj => by rw [a j hj]; rfl⟩
theorem firstIx_none {p : Nat → Bool} {n : Nat} (a : ∀ j, j < n → p j = false) : firstIx p n = none := by
  unfold firstIx
  rw [List.find?_eq_none]
  intro j hj
  rw [a j (List.mem_range.mp hj)]
  exact Bool.false_ne_true
/-- a text of a list that stands ahead, too: the first such -/
def dupAt (xs : List Str) : Option Str := (firstIx (fun k => decide (xs.getD k Str.empty ∈ xs.take k)) xs.length).map fun k => xs.getD k Str.empty
theorem getD_of {xs : List Str} {k : Nat} {x : Str} (h : xs[k]? = some x) : xs.getD k Str.empty = x := by
  rw [List.getD_eq_getElem?_getD, h]
  rfl
theorem dupAt_some {xs : List Str} {k : Nat} {x : Str} (h : xs[k]? = some x) (m : x ∈ xs.take k) (a : ∀ j y, j < k → xs[j]? = some y → y ∉ xs.take j) : dupAt xs = some x := by
  unfold dupAt
  rw [firstIx_some (lt_of_get h) (decide_eq_true (by rw [getD_of h]; exact m)) fun j hj => ?_]
  · exact congrArg some (getD_of h)
  · obtain ⟨y, hy⟩ : ∃ y, xs[j]? = some y := ⟨_, List.getElem?_eq_getElem (Nat.lt_trans hj (lt_of_get h))⟩
    rw [getD_of hy]
    exact decide_eq_false (a j y hj hy)
theorem dupAt_none {xs : List Str} (a : ∀ j y, xs[j]? = some y → y ∉ xs.take j) : dupAt xs = none := by
  unfold dupAt
  rw [firstIx_none fun j hj => ?_]
  · rfl
  · obtain ⟨y, hy⟩ : ∃ y, xs[j]? = some y := ⟨_, List.getElem?_eq_getElem hj⟩
    rw [getD_of hy]
    exact decide_eq_false (a j y hy)
end Th
/-! own classes: what a def may use of them -/
namespace Th
open PySem PySem.Spec PyProof.Rows L2
/-- a class of the program: its name, its fields -/
structure ClsF (K : PySem.W.Frag) (mg : Str → Option Value) (C : Addr) (x : Str) (flds : List Str) : Prop where
  m : mg x = some (.ref C)
  cl : Cls K C
  na : ∀ f ∈ flds, NoAttr K C f
/-- its __init__, with what stands for the parameters that are not given -/
def HasI (P : Program) (w : World) (K : PySem.W.Frag) (mg : Str → Option Value) (base : Heap) (C : Addr) (k : Nat) (ps : List Str) (D : List V → Prop) (sp : Sp) : Prop :=
  ∃ (fI : Addr) (fd : FuncData) (ds : List Value) (dvs : List V), Mk K C fI ∧ FnOk P w K mg base (L2.CX P w) k fI fd ps sp ∧ Binds K fd ps ds ∧ Vals dvs ds ∧ D dvs
/-- a method -/
def HasM (P : Program) (w : World) (K : PySem.W.Frag) (mg : Str → Option Value) (base : Heap) (C : Addr) (m : Str) (k : Nat) (ps : List Str) (sp : Sp) : Prop :=
  ∃ (f : Addr) (fd : FuncData), Meth K C m f ∧ FnOk P w K mg base (L2.CX P w) k f fd ps sp ∧ Binds K fd ps []
/-- one default: an empty tuple -/
def dEmpty (K : PySem.W.Frag) (dvs : List V) : Prop := ∃ t : Addr, dvs = [.ref t] ∧ ∀ H : Hp, SqT K H t [] ∧ TyX K H (.ref t) (.type "tuple")
/-- no default is left to fill in -/
def dNone (_ : PySem.W.Frag) (dvs : List V) : Prop := dvs = []
/-- a def that is never called -/
def spNo : Sp := fun _ _ _ _ => False
theorem no_ok {P : Program} {w : World} {K : PySem.W.Frag} {mg : Str → Option Value} {base : Heap} {CX : CXT} {k : Nat} {f : Addr} {fd : FuncData} {ps : List Str} : FnOk P w K mg base CX k f fd ps spNo :=
  ⟨fun _ _ _ _ h => h.elim, fun _ _ _ _ _ _ _ _ _ _ _ _ _ hs => hs.elim⟩
end Th
/-! what is wrong with an argument: the error's name and its value -/
namespace Th
open PySem PySem.Spec PyProof.Rows L2
/-- the items of a list or a tuple -/
def itemsF : PyData → Option (List PyData)
  | .list ds => some ds
  | .tuple ds => some ds
  | _ => none
theorem seqF {K : PySem.W.Frag} {H : Hp} {v : V} {d : PyData} (r : Da K H v d) (h : tyD d = "list" ∨ tyD d = "tuple") : ∃ b vs ds, v = .ref b ∧ (SqL K H b vs ∨ SqT K H b vs) ∧ DaAll K H vs ds ∧ itemsF d = some ds := by
  cases r with
  | non => rcases h with z | z <;> exact absurd z (by simp [tyD])
  | bl b => rcases h with z | z <;> exact absurd z (by simp [tyD])
  | int b => rcases h with z | z <;> exact absurd z (by simp [tyD])
  | str b => rcases h with z | z <;> exact absurd z (by simp [tyD])
  | lst a b c => exact ⟨_, _, _, rfl, .inl a, c, rfl⟩
  | tup a b c => exact ⟨_, _, _, rfl, .inr a, c, rfl⟩
theorem noseqF {d : PyData} (h : ¬ (tyD d = "list" ∨ tyD d = "tuple")) : itemsF d = none := by
  cases d with
  | list _ => exact absurd (.inl rfl) h
  | tuple _ => exact absurd (.inr rfl) h
  | none => rfl
  | bool _ => rfl
  | int _ => rfl
  | str _ => rfl
  | dict _ => rfl
def markOf : PyData → Str
  | .tuple (m :: _) => strD m
  | _ => Str.empty
abbrev dueE (c : Str) (v : PyData) : Option (Str × PyData) := some (c, v)
def fldOf (c : Str) : Str := if c = "InvalidFact" then "at" else if c = "TooMany" then "most" else if c = "InvalidFind" then "at" else if c = "InvalidWord" then "at" else "name"
theorem getDd {ds : List PyData} {k : Nat} {e : PyData} (h : ds[k]? = some e) : ds.getD k .none = e := by
  rw [List.getD_eq_getElem?_getD, h]
  rfl
/-- a cut of a list or a tuple -/
def rSlLT (K : PySem.W.Frag) : V → Option Int → Option Int → Hp → VK → Prop := fun x lo hi H Q => ∃ a xs, x = .ref a ∧ (SqL K H a xs ∨ SqT K H a xs) ∧ ∀ r H', Same H H' → (SqL K H' r (cutV xs lo hi) ∨ SqT K H' r (cutV xs lo hi)) → Q (.ref r) H'
theorem sl_LT {X : Cx} : SlR X (rSlLT X.K) := by
  intro pins s σ H x v vl vu lo hi sl Q I rx hs pl pu h
  obtain ⟨a, xs, rfl, ha, q⟩ := h
  rcases ha with ha | ha
  · exact sl_list pins s σ H _ v vl vu lo hi sl Q I rx hs pl pu ⟨a, xs, rfl, ha, fun p np => q p _ (same_new np) (.inl (.inl (.inl upd_same)))⟩
  · exact sl_tupA pins s σ H _ v vl vu lo hi sl Q I rx hs pl pu ⟨a, xs, rfl, ha, fun w => q a H (Same.refl H) (.inr (by rw [cutV_whole w]; exact ha)), fun _ p np => q p _ (same_new np) (.inr (.inl (.inl upd_same)))⟩
/-- sorted(texts), of a list or a tuple -/
def rSortedLT (K : PySem.W.Frag) : List V → Hp → VK → Prop := fun vs H Q => ∃ (a : Addr) (l : List Str), vs = [V.ref a] ∧ (SqL K H a (l.map V.str) ∨ SqT K H a (l.map V.str)) ∧ l.length < 64 ∧
  ∀ (ys : List Str) (p : Addr), ys.Perm l → sortedS ys = true → H p = none → Q (.ref p) (upd H p (.lst (ys.map V.str)))
theorem cr_sortedLT {X : Cx} : CallR X (.builtin "sorted") (rSortedLT X.K) := by
  intro pins s σ H vs us Q I r h
  obtain ⟨a, l, rfl, ha, h64, q⟩ := h
  rcases ha with ha | ha
  · exact cr_sortedS pins s σ H _ us Q I r ⟨a, l, rfl, ha, h64, q⟩
  · exact cr_sortedTT pins s σ H _ us Q I r ⟨a, l, rfl, ha, h64, q⟩
/-- a comprehension over a list or a tuple -/
theorem same_any {K : PySem.W.Frag} {H H' : Hp} {p : Addr} {xs : List V} (s : Same H H') (h : SqL K H p xs ∨ SqT K H p xs) : SqL K H' p xs ∨ SqT K H' p xs := h.imp s.seq (same_t s)
end Th
/-! books: what stays while one is made, what one holds -/
namespace Th
open PySem PySem.Spec PyProof.Rows L2
/-- all but instances stay -/
def KeepS (H H' : Hp) : Prop := ∀ b o, H b = some o → (∀ C dx fs, o ≠ .ins C dx fs) → H' b = some o
theorem KeepS.of {H H' : Hp} (s : Same H H') : KeepS H H' := fun b o e _ => s b o e
theorem KeepS.trans {H H1 H2 : Hp} (a : KeepS H H1) (b : KeepS H1 H2) : KeepS H H2 := fun c o e p => b c o (a c o e p) p
/-- one instance gets other fields -/
theorem KeepS.put {H : Hp} {b C dx : Addr} {fs : List (Str × V)} {o : HO} (e : H b = some (.ins C dx fs)) : KeepS H (upd H b o) := fun c o' h n => by
  by_cases z : c = b
  · rw [z, e] at h
    cases h
    exact absurd rfl (n C dx fs)
  · rw [upd_ne z]
    exact h
section
variable {K : PySem.W.Frag} {H H' : Hp}
theorem KeepS.l (e : KeepS H H') {a : Addr} {xs : List V} (h : SqL K H a xs) : SqL K H' a xs := by
  rcases h with (h | ⟨o, h⟩) | h
  · exact .inl (.inl (e _ _ h (fun _ _ _ z => by cases z)))
  · exact .inl (.inr ⟨o, e _ _ h (fun _ _ _ z => by cases z)⟩)
  · exact .inr h
theorem KeepS.t (e : KeepS H H') {a : Addr} {xs : List V} (h : SqT K H a xs) : SqT K H' a xs := by
  rcases h with (h | ⟨o, h⟩) | h
  · exact .inl (.inl (e _ _ h (fun _ _ _ z => by cases z)))
  · exact .inl (.inr ⟨o, e _ _ h (fun _ _ _ z => by cases z)⟩)
  · exact .inr h
theorem KeepS.lt (e : KeepS H H') {a : Addr} {xs : List V} (h : SqL K H a xs ∨ SqT K H a xs) : SqL K H' a xs ∨ SqT K H' a xs := h.imp e.l e.t
theorem KeepS.ty (e : KeepS H H') {v : V} {t : String} (h : TyX K H v (.type t)) : TyX K H' v (.type t) := by
  generalize ht : Value.type t = u at h
  cases h with
  | byt b => exact .byt b
  | kList h c => exact .kList h c
  | kTuple h c => exact .kTuple h c
  | kDict h c => exact .kDict h c
  | set h => exact .set (e _ _ h (fun _ _ _ z => by cases z))
  | fTuple h => exact .fTuple (e _ _ h (fun _ _ _ z => by cases z))
  | fDict h => exact .fDict (e _ _ h (fun _ _ _ z => by cases z))
  | base b =>
    refine .base ?_
    cases b with
    | non => exact .non
    | bl x => exact .bl x
    | int i => exact .int i
    | str x => exact .str x
    | flt x => exact .flt x
    | lst h => exact .lst (e _ _ h (fun _ _ _ z => by cases z))
    | frz h => exact .frz (e _ _ h (fun _ _ _ z => by cases z))
    | tup h => exact .tup (e _ _ h (fun _ _ _ z => by cases z))
    | dK h => exact .dK (e _ _ h (fun _ _ _ z => by cases z))
    | dT h => exact .dT (e _ _ h (fun _ _ _ z => by cases z))
    | ins h cl ha hn htk hm => cases ht
mutual
theorem Da.keepS (e : KeepS H H') : ∀ (d : PyData) (v : V), Da K H v d → Da K H' v d
  | .none, _, h => by cases h; exact .non
  | .bool b, _, h => by cases h; exact .bl b
  | .int i, _, h => by cases h; exact .int i
  | .str x, _, h => by cases h; exact .str x
  | .list ds, _, h => by
    cases h with
    | lst hs ht ha => exact .lst (e.l hs) (e.ty ht) (DaAll.keepS e ds _ ha)
  | .tuple ds, _, h => by
    cases h with
    | tup hs ht ha => exact .tup (e.t hs) (e.ty ht) (DaAll.keepS e ds _ ha)
  | .dict _, _, h => by cases h
theorem DaAll.keepS (e : KeepS H H') : ∀ (ds : List PyData) (vs : List V), DaAll K H vs ds → DaAll K H' vs ds
  | [], _, h => by cases h; exact .nil
  | d :: ds, _, h => by
    cases h with
    | cons h1 h2 => exact .cons (Da.keepS e d _ h1) (DaAll.keepS e ds _ h2)
end
theorem DaAll.ks {vs : List V} {ds : List PyData} (h : DaAll K H vs ds) (e : KeepS H H') : DaAll K H' vs ds := DaAll.keepS e ds vs h
theorem Da.ks {v : V} {d : PyData} (h : Da K H v d) (e : KeepS H H') : Da K H' v d := Da.keepS e d v h
end
/-- a book: its finds, ascending, and its words -/
structure BookW (K : PySem.W.Frag) (H : Hp) (C b : Addr) (ys : List Str) (ws : List PyData) : Prop where
  ex : ∃ (dx fa wa : Addr) (vs : List V), H b = some (.ins C dx [("_finds", .ref fa), ("_words", .ref wa)]) ∧ H fa = some (.lst (ys.map V.str)) ∧ H wa = some (.lst vs) ∧ DaAll K H vs ws
theorem BookW.to {K : PySem.W.Frag} {H H' : Hp} {C b : Addr} {ys : List Str} {ws : List PyData} (h : BookW K H C b ys ws) (s : Same H H') : BookW K H' C b ys ws := by
  obtain ⟨dx, fa, wa, vs, e1, e2, e3, e4⟩ := h.ex
  exact ⟨dx, fa, wa, vs, s _ _ e1, s _ _ e2, s _ _ e3, e4.to s⟩
theorem put_two (f w : V) : putF "_words" w (putF "_finds" f []) = ([("_finds", f), ("_words", w)] : List (Str × V)) := by rfl
theorem bk_f (f w : V) : ([("_finds", f), ("_words", w)] : List (Str × V)).lookup ("_finds" : Str) = some f := by rfl
theorem bk_w (f w : V) : ([("_finds", f), ("_words", w)] : List (Str × V)).lookup ("_words" : Str) = some w := by rfl
theorem filterStep {α : Type} {p : α → Bool} {xs : List α} {i : Nat} {x : α} (h : xs[i]? = some x) : (xs.take (i + 1)).filter p = (xs.take i).filter p ++ (if p x = true then [x] else []) := by
  rw [List.take_add_one, h, List.filter_append]
  by_cases hm : p x = true
  · rw [if_pos hm, Option.toList_some, List.filter_cons, if_pos hm]
    rfl
  · rw [if_neg hm, Option.toList_some, List.filter_cons, if_neg hm]
    rfl
/-- a word: its mark, its lot -/
def wOf (p : Str × List Str) : PyData := .tuple [.str p.1, .tuple (p.2.map .str)]
theorem Da.wO {K : PySem.W.Frag} {H : Hp} {v : V} {p : Str × List Str} (h : Da K H v (wOf p)) : ∃ a b, v = .ref a ∧ SqT K H a [.str p.1, .ref b] ∧ Da K H (.ref b) (.tuple (p.2.map .str)) := by
  cases h with
  | tup s1 _ r1 =>
    cases r1 with
    | cons h1 r1 =>
      cases h1
      cases r1 with
      | cons h2 r2 =>
        cases r2
        cases h2 with
        | tup s2 t2 r3 => exact ⟨_, _, rfl, s1, .tup s2 t2 r3⟩
end Th
/-! statements -/
namespace Th
open PySem PySem.Spec PyProof.Rows L2
inductive St where
  | lot (xs : List Str)
  | bef (x y : Str)
  | nev
def stOf : St → PyData
  | .lot xs => .tuple [.str "lot", .tuple (xs.map .str)]
  | .bef x y => .tuple [.str "before", .str x, .str y]
  | .nev => .tuple [.str "never"]
def okSt : St → Prop
  | .lot xs => xs ≠ [] ∧ (∀ x ∈ xs, isNm x = true) ∧ risB xs = true ∧ xs.length ≤ 60
  | .bef x y => isNm x = true ∧ isNm y = true
  | .nev => True
def hdS : St → Str
  | .lot _ => "lot"
  | .bef _ _ => "before"
  | .nev => "never"
def isLot : St → Bool
  | .lot _ => true
  | _ => false
def isBef : St → Bool
  | .bef _ _ => true
  | _ => false
theorem lot_strs {d : PyData} {n : Nat} (h : lotD d = true) (lv : Lv (n + 1) d) : ∃ xs : List Str, d = .tuple (xs.map .str) ∧ xs ≠ [] ∧ (∀ x ∈ xs, isNm x = true) ∧ risB xs = true ∧ xs.length ≤ 60 := by
  cases d with
  | tuple ds =>
    obtain ⟨h1, h2⟩ := Bool.and_eq_true_iff.mp (show (!ds.isEmpty && ds.all nmD && risB (ds.map strD)) = true from h)
    obtain ⟨h0, h3⟩ := Bool.and_eq_true_iff.mp h1
    have e := nms_strs h3
    refine ⟨ds.map strD, by rw [← e], fun z => ?_, fun x hx => ?_, h2, by rw [List.length_map]; exact lv.1⟩
    · rw [List.map_eq_nil_iff.mp z] at h0
      cases h0
    · obtain ⟨y, hy, rfl⟩ := List.mem_map.mp hx
      have := List.all_eq_true.mp h3 y hy
      rw [nmD_str this] at this
      exact this
  | _ => cases h
theorem st_shape {n : Nat} {d : PyData} (h : stD d = true) (lv : Lv (n + 2) d) : ∃ s, d = stOf s ∧ okSt s := by
  cases d with
  | tuple ds =>
    cases ds with
    | nil => cases h
    | cons e r =>
      cases e with
      | str hd =>
        have h' : (if hd = "lot" then (r.length == 1 && r.all lotD) else if hd = "before" then (r.length == 2 && r.all nmD) else (decide (hd = "never") && r.isEmpty)) = true := h
        by_cases h1 : hd = "lot"
        · rw [if_pos h1] at h'
          obtain ⟨a, b⟩ := Bool.and_eq_true_iff.mp h'
          cases r with
          | nil => cases a
          | cons l r =>
            cases r with
            | cons _ _ => cases a
            | nil =>
              obtain ⟨xs, e, k⟩ := lot_strs (n := n) (by simpa using b) (lv_in lv (List.mem_cons_of_mem _ List.mem_cons_self))
              exact ⟨.lot xs, by rw [h1, e]; rfl, k⟩
        · rw [if_neg h1] at h'
          by_cases h2 : hd = "before"
          · rw [if_pos h2] at h'
            obtain ⟨a, b⟩ := Bool.and_eq_true_iff.mp h'
            cases r with
            | nil => cases a
            | cons x r =>
              cases r with
              | nil => cases a
              | cons y r =>
                cases r with
                | cons _ _ => cases a
                | nil =>
                  have b' : (nmD x && (nmD y && true)) = true := b
                  obtain ⟨b1, b2⟩ := Bool.and_eq_true_iff.mp b'
                  rw [Bool.and_true] at b2
                  have e1 := nmD_str b1
                  have e2 := nmD_str b2
                  refine ⟨.bef (strD x) (strD y), by rw [h2, e1, e2]; rfl, ?_, ?_⟩
                  · rw [e1] at b1; exact b1
                  · rw [e2] at b2; exact b2
          · rw [if_neg h2] at h'
            obtain ⟨a, b⟩ := Bool.and_eq_true_iff.mp h'
            cases r with
            | cons _ _ => cases b
            | nil => exact ⟨.nev, by rw [of_decide_eq_true a]; rfl, True.intro⟩
      | _ => cases h
  | _ => cases h
section
variable {K : PySem.W.Frag} {H : Hp} {v : V}
theorem Da.stL {xs : List Str} (h : Da K H v (stOf (.lot xs))) : ∃ a b, v = .ref a ∧ SqT K H a [.str "lot", .ref b] ∧ SqT K H b (xs.map V.str) := by
  cases h with
  | tup s1 _ r1 =>
    cases r1 with
    | cons h1 r1 =>
      cases h1
      cases r1 with
      | cons h2 r2 =>
        cases r2
        cases h2 with
        | tup s2 _ r3 =>
          rw [r3.isStrs] at s2
          exact ⟨_, _, rfl, s1, s2⟩
theorem Da.stB {x y : Str} (h : Da K H v (stOf (.bef x y))) : ∃ a, v = .ref a ∧ SqT K H a [.str "before", .str x, .str y] := by
  cases h with
  | tup s1 _ r1 =>
    cases r1 with
    | cons h1 r1 =>
      cases h1
      cases r1 with
      | cons h2 r2 =>
        cases h2
        cases r2 with
        | cons h3 r3 =>
          cases h3
          cases r3
          exact ⟨_, rfl, s1⟩
theorem Da.stN (h : Da K H v (stOf .nev)) : ∃ a, v = .ref a ∧ SqT K H a [.str "never"] := by
  cases h with
  | tup s1 _ r1 =>
    cases r1 with
    | cons h1 r1 =>
      cases h1
      cases r1
      exact ⟨_, rfl, s1⟩
theorem Da.stBT {x y : Str} (h : Da K H v (stOf (.bef x y))) : ∃ a, v = .ref a ∧ TupAt K H a [.str "before", .str x, .str y] := by
  obtain ⟨a, rfl, s1⟩ := h.stB
  cases h with
  | tup _ t1 _ => exact ⟨a, rfl, s1, t1⟩
/-- its head -/
theorem Da.stH {s : St} (h : Da K H v (stOf s)) : ∃ a us, v = .ref a ∧ SqT K H a us ∧ us[0]? = some (.str (hdS s)) := by
  cases s with
  | lot xs => obtain ⟨a, b, e, s1, _⟩ := h.stL; exact ⟨a, _, e, s1, rfl⟩
  | bef x y => obtain ⟨a, e, s1⟩ := h.stB; exact ⟨a, _, e, s1, rfl⟩
  | nev => obtain ⟨a, e, s1⟩ := h.stN; exact ⟨a, _, e, s1, rfl⟩
end
theorem hd_lot (s : St) : decide (V.str (hdS s) = V.str "lot") = isLot s := by
  cases s with
  | lot _ => exact (show decide (V.str "lot" = V.str "lot") = true by decide +kernel)
  | bef _ _ => exact (show decide (V.str "before" = V.str "lot") = false by decide +kernel)
  | nev => decide +kernel
theorem hd_bef (s : St) : decide (V.str (hdS s) = V.str "before") = isBef s := by
  cases s with
  | lot _ => exact (show decide (V.str "lot" = V.str "before") = false by decide +kernel)
  | bef _ _ => exact (show decide (V.str "before" = V.str "before") = true by decide +kernel)
  | nev => decide +kernel
/-- two lots overlap -/
def ovB (xs zs : List Str) : Bool := !(xs.all fun x => !decide (x ∈ zs)) && !(xs.all fun x => decide (x ∈ zs)) && !(zs.all fun z => decide (z ∈ xs))
def ovS : St → St → Bool
  | .lot xs, .lot zs => ovB xs zs
  | _, _ => false
theorem ovB_iff {xs zs : List Str} {c : Bool} (h : c = true ↔ (¬ ∀ x ∈ xs, x ∉ zs) ∧ (¬ ∀ x ∈ xs, x ∈ zs) ∧ ¬ ∀ z ∈ zs, z ∈ xs) : c = ovB xs zs := by
  rw [Bool.eq_iff_iff, h]
  unfold ovB
  simp
  constructor
  · rintro ⟨a, b, c⟩; exact ⟨⟨a, b⟩, c⟩
  · rintro ⟨⟨a, b⟩, c⟩; exact ⟨a, b, c⟩
theorem ov_lots {s0 s1 : St} (h : ovS s0 s1 = true) : ∃ xs zs, s0 = .lot xs ∧ s1 = .lot zs ∧ ovB xs zs = true := by
  cases s0 with
  | lot xs =>
    cases s1 with
    | lot zs => exact ⟨xs, zs, rfl, rfl, h⟩
    | _ => cases h
  | _ => cases h
theorem two_bef {s t : St} (h : [s, t].all isBef = true) : ∃ u v x y, s = .bef u v ∧ t = .bef x y := by
  cases s with
  | bef u v =>
    cases t with
    | bef x y => exact ⟨u, v, x, y, rfl, rfl⟩
    | _ => cases h
  | _ => cases h
/-- a lot that is not great -/
def shSt : St → Prop
  | .lot xs => xs.length ≤ 30
  | _ => True
/-- a rule that draws a statement from those told ahead -/
def spDrawn (K : PySem.W.Frag) (n : Nat) (j : St → List St → Bool) : Sp := fun vs H Q _ => ∃ (v : V) (a : Addr) (us : List V) (st : St) (ts : List St), vs = [v, .ref a] ∧ Da K H v (stOf st) ∧ okSt st ∧ SqL K H a us ∧ DaAll K H us (ts.map stOf) ∧ (∀ t ∈ ts, okSt t) ∧ ts.length = n ∧ (∀ t ∈ ts, shSt t) ∧ ∀ H', Same H H' → Q (.bl (j st ts)) H'
theorem len2 {α : Type} {l : List α} (h : l.length = 2) : ∃ a b, l = [a, b] := by
  match l, h with
  | [a, b], _ => exact ⟨a, b, rfl⟩
theorem len3 {α : Type} {l : List α} (h : l.length = 3) : ∃ a b c, l = [a, b, c] := by
  match l, h with
  | [a, b, c], _ => exact ⟨a, b, c, rfl⟩
theorem inI (i : Int) (l : List Int) : inV (.int i) (l.map V.int) = l.any fun p => decide (p = i) := by
  unfold inV
  rw [List.any_map]
  congr 1
theorem flatI (l : List Int) : (l.map V.int).all flatV = true := by
  rw [List.all_map, List.all_eq_true]
  intro _ _
  rfl
end Th
/-! a + x by an own __add__, x any datum -/
namespace PySem.W
open Lean Elab Tactic Meta PySem PySem.Calls PyProof.Rows
section
variable {prog : Program} {w : World} {A : Around} {E : Value → Shared → Prop} {s : Shared} {K : Frag} {x C f : Addr} {ox : Obj} {od : Option Obj} {T : String}
theorem th_binT {op : Operator} {b : Value} {fo ro rc : Option Value} {Q : Value → Shared → Prop} (X : K.In s.heap) (I : InstAt s.heap x ox C od) (hb : Looks (model prog w) s.heap (typeOf b) (.type T)) (hc : selfFirst K C = true)
    (hs : findIn K (.ref C) (PySem.dunder op.info.2) = some (some (.ref f))) (hf : isFn K (.ref f) = true) (hr : findIn K (.ref C) (dunderR op.info.2) = some rc) (hp : rc = none ∨ ∃ g : Addr, rc = some (.ref g))
    (h1 : findIn K (.type T) (PySem.dunder op.info.2) = some fo) (h2 : findIn K (.type T) (dunderR op.info.2) = some ro) (hsub : subIn K (.type T) (.ref C) = some false)
    (h : wpAny (model prog w) A (call (.ref f) [.ref x, b]) (CmpBack Q) E s) : wpAny (model prog w) A (binaryOp op (.ref x) b) Q E s := by
  obtain ⟨cd, rest, hcd, hm⟩ := ksp_first hc
  rcases hi : op.info with ⟨sym, nm'⟩
  rw [hi] at hs hr h1 h2
  dsimp only at hs hr h1 h2
  have one := ksp_try X I hs hf h
  obtain ⟨hh, g, d, tt, os⟩ := s
  have L1 : Looks (model prog w) hh (typeOf (.ref x)) (.ref C) := I.type
  have L2 : Looks (model prog w) hh (typeOf b) (.type T) := hb
  have L3 : Looks (model prog w) hh (fillsNumberSlot (.ref C) nm') true := fills_K X hcd hm hs
  have L4 : Looks (model prog w) hh (fillsNumberSlot (.type T) nm') ((fo.isSome && !isSeqSlot fo) || (ro.isSome && !isSeqSlot ro)) := ksp_fillsT X h1 h2
  have L5 : Looks (model prog w) hh (isSubtype (.type T) (.ref C)) false := looks_subIn X hsub
  have L6 : Looks (model prog w) hh (numberSlotInPython (.ref C) nm') true := ksp_inPy X hs hr hp
  have L7 : Looks (model prog w) hh (numberSlotInPython (.type T) nm') false := Looks.of_pure rfl
  have L8 : Looks (model prog w) hh (typeLookup (.type T) (dunderR nm')) ro := looks_findIn X h2
  generalize ((fo.isSome && !isSeqSlot fo) || (ro.isSome && !isSeqSlot ro)) = right at L4
  have hne : (Value.ref C == Value.type T) = false := Bool.eq_false_iff.mpr fun q => by cases beq_iff_eq.mp q
  simp only [binaryOp, hi]
  refine wpAny_holding (wpAny_bind ?_)
  unfold binaryOp1
  refine wpAny_bind (L1.at (wpAny_bind (L2.at (wpAny_bind (L3.at ?_)))))
  simp only [hne, Bool.false_eq_true, if_false]
  cases right with
  | false =>
    ksp_lk
    refine wpAny_mono one (fun r s' hr' => ?_) fun _ _ e => e
    obtain ⟨v, rfl, hq⟩ := hr'
    ksp_lk
    exact hq
  | true =>
    ksp_lk
    refine wpAny_mono one (fun r s' hr' => ?_) fun _ _ e => e
    obtain ⟨v, rfl, hq⟩ := hr'
    ksp_lk
    exact hq
end
end PySem.W
namespace Th
open PySem PySem.Spec PyProof.Rows L2
def dataTypes : List String := ["NoneType", "bool", "int", "str", "list", "tuple"]
/-- a class with an own __add__ -/
structure AddC (K : PySem.W.Frag) (C f : Addr) : Prop where
  sf : PySem.W.selfFirst K C = true
  at_ : PySem.W.findIn K (.ref C) (PySem.dunder "add") = some (some (.ref f))
  fn : PySem.W.isFn K (.ref f) = true
  r : PySem.W.findIn K (.ref C) (PySem.dunderR "add") = some none
  ty : ∀ T ∈ dataTypes, (∃ fo, PySem.W.findIn K (.type T) (PySem.dunder "add") = some fo) ∧ (∃ ro, PySem.W.findIn K (.type T) (PySem.dunderR "add") = some ro) ∧ PySem.W.subIn K (.type T) (.ref C) = some false
/-- its promise -/
def HasA (P : Program) (w : World) (K : PySem.W.Frag) (mg : Str → Option Value) (base : Heap) (C : Addr) (k : Nat) (ps : List Str) (sp : Sp) : Prop :=
  ∃ (f : Addr) (fd : FuncData), AddC K C f ∧ FnOk P w K mg base (L2.CX P w) k f fd ps sp ∧ Binds K fd ps []
def rAdd (K : PySem.W.Frag) (C : Addr) (sp : Sp) (E : XK) : R2 := fun x y H Q => ∃ (b dx : Addr) (fs : List (Str × V)) (T : String), x = .ref b ∧ H b = some (.ins C dx fs) ∧ TyX K H y (.type T) ∧ T ∈ dataTypes ∧ sp [x, y] H Q E
theorem op_addOwn {X : Cx} {C f : Addr} {fd : FuncData} {CX : CXT} {k : Nat} {ps : List Str} {sp : Sp} {E : XK} (ac : AddC X.K C f) (F : FnOk X.prog X.w X.K X.mg X.base CX k f fd ps sp) (hr : Room k X.A) (hb : Binds X.K fd ps []) (hx : Passes CX X E) :
    OpR X (binaryOp .Add) (rAdd X.K C sp E) := by
  intro pins s σ H x y v u Q I rx ry h
  obtain ⟨b, dx, fs, T, rfl, eb, ty, hT, q⟩ := h
  obtain rfl : v = Value.ref b := rx
  obtain ⟨mA, O, _, _, _, _⟩ := ins_get I.hok eb
  obtain ⟨od, J, _⟩ := O.look
  obtain ⟨P, kx, hP, _⟩ := kit_of I ry ty
  obtain ⟨⟨fo, h1⟩, ⟨ro, h2⟩, h3⟩ := ac.ty T hT
  refine PySem.W.th_binT I.kIn J (kx.ty _ _ I.kIn hP) ac.sf ac.at_ ac.fn ac.r (.inl rfl) h1 h2 h3 ?_
  refine wpAny_mono (run_fn (us := [.ref b, u]) (vs := [.ref b, y]) F hr hb .nil hx I (.cons rfl (.cons ry .nil)) q) (fun r s' hq => ?_) fun _ _ e => e
  obtain ⟨z, H', J', rz, qz⟩ := hq
  cases r <;> first | exact ⟨z, H', J', rz, qz⟩ | (exfalso; cases z <;> first | (obtain ⟨_, e⟩ := rz; cases e; done) | (cases rz; done))
end Th
namespace PySem.W
open Lean Elab Tactic Meta PySem PySem.Calls PyProof.Rows
section
variable {M : Model} {A : Around} {E : Value → Shared → Prop} {s : Shared} {K : Frag} {x C f : Addr} {ox : Obj} {od : Option Obj} {v : Value}
theorem th_contains {Q : Bool → Shared → Prop} (X : K.In s.heap) (I : InstAt s.heap x ox C od) (hs : findIn K (.ref C) "__contains__" = some (some (.ref f))) (hf : isFn K (.ref f) = true)
    (h : wpAny M A (call (.ref f) [.ref x, v]) (fun r s' => wpAny M A (truthy r) Q E s') E s) : wpAny M A (contains (.ref x) v) Q E s := by
  unfold contains
  refine wpAny_holding (wpAny_bind (wpAny_bind (I.type.here ((looks_findIn X hs).here ?_))))
  rw [if_neg (by simp)]
  exact wpAny_bind (unlessNone_K X I hs hf h)
theorem th_in {Q : Value → Shared → Prop} (X : K.In s.heap) (I : InstAt s.heap x ox C od) (hs : findIn K (.ref C) "__contains__" = some (some (.ref f))) (hf : isFn K (.ref f) = true)
    (h : wpAny M A (call (.ref f) [.ref x, v]) (fun r s' => wpAny M A (truthy r) (fun b => Q (.bool b)) E s') E s) : wpAny M A (compareOp .In v (.ref x)) Q E s :=
  wpAny_bind (th_contains X I hs hf (wpAny_mono h (fun _ _ z => wpAny_mono z (fun _ _ z => wpAny_pure z) fun _ _ z => z) fun _ _ z => z))
theorem th_notIn {Q : Value → Shared → Prop} (X : K.In s.heap) (I : InstAt s.heap x ox C od) (hs : findIn K (.ref C) "__contains__" = some (some (.ref f))) (hf : isFn K (.ref f) = true)
    (h : wpAny M A (call (.ref f) [.ref x, v]) (fun r s' => wpAny M A (truthy r) (fun b => Q (.bool (!b))) E s') E s) : wpAny M A (compareOp .NotIn v (.ref x)) Q E s :=
  wpAny_bind (th_contains X I hs hf (wpAny_mono h (fun _ _ z => wpAny_mono z (fun _ _ z => wpAny_pure z) fun _ _ z => z) fun _ _ z => z))
end
end PySem.W
namespace Th
open PySem PySem.Spec PyProof.Rows L2
/-- x in o by an own __contains__ that hands a bool back (neg: not in) -/
def rInOwn (C : Addr) (sp : Sp) (E : XK) (neg : Bool) : R2 := fun x y H Q => ∃ (b dx : Addr) (fs : List (Str × V)), y = .ref b ∧ H b = some (.ins C dx fs) ∧ sp [.ref b, x] H (fun v H' => ∃ c, v = .bl c ∧ Q (.bl (if neg then !c else c)) H') E
theorem op_inOwn {X : Cx} {C f : Addr} {fd : FuncData} {CX : CXT} {k : Nat} {ps : List Str} {sp : Sp} {E : XK} (me : Meth X.K C "__contains__" f) (F : FnOk X.prog X.w X.K X.mg X.base CX k f fd ps sp) (hr : Room k X.A) (hb : Binds X.K fd ps []) (hx : Passes CX X E) :
    OpR X (compareOp .In) (rInOwn C sp E false) := by
  intro pins s σ H x y v u Q I rx ry h
  obtain ⟨b, dx, fs, rfl, eb, q⟩ := h
  obtain rfl : u = Value.ref b := ry
  obtain ⟨mA, O, _, _, _, _⟩ := ins_get I.hok eb
  obtain ⟨od, J, _⟩ := O.look
  refine PySem.W.th_in I.kIn J me.at_ me.fn ?_
  refine wpAny_mono (run_fn (us := [.ref b, v]) (vs := [.ref b, x]) F hr hb .nil hx I (.cons rfl (.cons rx .nil)) q) (fun r s' hq => ?_) fun _ _ e => e
  obtain ⟨z, H', J', rz, c, rfl, qz⟩ := hq
  obtain rfl : r = Value.bool c := rz
  exact wpAny_pure ⟨.bl c, H', J', rfl, qz⟩
theorem op_notInOwn {X : Cx} {C f : Addr} {fd : FuncData} {CX : CXT} {k : Nat} {ps : List Str} {sp : Sp} {E : XK} (me : Meth X.K C "__contains__" f) (F : FnOk X.prog X.w X.K X.mg X.base CX k f fd ps sp) (hr : Room k X.A) (hb : Binds X.K fd ps []) (hx : Passes CX X E) :
    OpR X (compareOp .NotIn) (rInOwn C sp E true) := by
  intro pins s σ H x y v u Q I rx ry h
  obtain ⟨b, dx, fs, rfl, eb, q⟩ := h
  obtain rfl : u = Value.ref b := ry
  obtain ⟨mA, O, _, _, _, _⟩ := ins_get I.hok eb
  obtain ⟨od, J, _⟩ := O.look
  refine PySem.W.th_notIn I.kIn J me.at_ me.fn ?_
  refine wpAny_mono (run_fn (us := [.ref b, v]) (vs := [.ref b, x]) F hr hb .nil hx I (.cons rfl (.cons rx .nil)) q) (fun r s' hq => ?_) fun _ _ e => e
  obtain ⟨z, H', J', rz, c, rfl, qz⟩ := hq
  obtain rfl : r = Value.bool c := rz
  exact wpAny_pure ⟨.bl (!c), H', J', rfl, qz⟩
end Th
/-! a call of one of several defs that a dict hands out -/
namespace Th
open PySem PySem.Spec PyProof.Rows L2
theorem fun_ne {K : PySem.W.Frag} {x y q q' : Str} {st st' : Stmt} {f1 f2 : Addr} {fd1 fd2 : FuncData} (F1 : Fun K x q st f1 fd1) (F2 : Fun K y q' st' f2 fd2) (h : x ≠ y) : f1 ≠ f2 := fun e => by
  obtain ⟨oc, od, kV, doc, pm, an, cdv, ct, osl, e1, l1, _⟩ := F1.ex
  obtain ⟨oc', od', kV', doc', pm', an', cdv', ct', osl', e2, l2, _⟩ := F2.ex
  rw [e, l2] at l1
  cases l1
  rw [e1] at e2
  exact h (congrArg FuncData.name e2)
/-- which promise goes with an address -/
def SL (l : List (Addr × Sp)) (a : Addr) : Option Sp := (l.find? fun p => decide (p.1 = a)).map (·.2)
theorem SL_hd {a : Addr} {sp : Sp} {l : List (Addr × Sp)} : SL ((a, sp) :: l) a = some sp := by
  unfold SL
  rw [List.find?_cons, decide_eq_true rfl]
  rfl
theorem SL_tl {a b : Addr} {sp : Sp} {l : List (Addr × Sp)} {r : Option Sp} (n : b ≠ a) (h : SL l a = r) : SL ((b, sp) :: l) a = r := by
  rw [← h]
  unfold SL
  rw [List.find?_cons, decide_eq_false n]
theorem held_SL {P : Program} {w : World} {K : PySem.W.Frag} {mg : Str → Option Value} {base : Heap} {k : Nat} {l : List (Addr × Sp)} (h : ∀ p ∈ l, Held P w K mg base k p.1 p.2) : ∀ f sp, SL l f = some sp → Held P w K mg base k f sp := fun f sp e => by
  unfold SL at e
  obtain ⟨p, hp, rfl⟩ := Option.map_eq_some_iff.mp e
  have := h p (List.mem_of_find?_eq_some hp)
  have e2 : p.1 = f := of_decide_eq_true (p := p.1 = f) (by have z := List.find?_some hp; exact z)
  rw [← e2]
  exact this
theorem held_of {P : Program} {w : World} {K : PySem.W.Frag} {mg : Str → Option Value} {base : Heap} {j k : Nat} {f : Addr} {fd : FuncData} {ps : List Str} {sp : Sp} (F : FnOk P w K mg base CX0 j f fd ps sp) (hk : PySem.W.keepIn K (.ref f) = true) (hb : Binds K fd ps []) (h : j ≤ k) : Held P w K mg base k f sp := ⟨fd, ps, F.mono h, hk, hb⟩
end Th
/-! a book while numbers are drawn -/
namespace Th
open PySem PySem.Spec PyProof.Rows L2
mutual
/-- no list in it -/
def tupOnly : PyData → Bool
  | .list _ => false
  | .dict _ => false
  | .tuple ds => tupOnlys ds
  | _ => true
def tupOnlys : List PyData → Bool
  | [] => true
  | d :: r => tupOnly d && tupOnlys r
end
section
variable {K : PySem.W.Frag} {H : Hp} {p : Addr} {l : List V}
theorem tup_hid (st : H p = some (.lst l)) {a : Addr} {o : HO} (h : H a = some o) (n : o ≠ .lst l) : hid p H a = some o := by
  rw [hid_ne (fun z => n (by rw [z, st] at h; exact (Option.some.inj h).symm))]
  exact h
theorem sqT_hid (st : H p = some (.lst l)) {a : Addr} {xs : List V} (h : SqT K H a xs) : SqT K (hid p H) a xs := by
  rcases h with (h | ⟨o, h⟩) | h
  · exact .inl (.inl (tup_hid st h (fun z => by cases z)))
  · exact .inl (.inr ⟨o, tup_hid st h (fun z => by cases z)⟩)
  · exact .inr h
theorem tyT_hid (st : H p = some (.lst l)) {a : Addr} (h : TyX K H (.ref a) (.type "tuple")) : TyX K (hid p H) (.ref a) (.type "tuple") := by
  generalize ht : Value.type "tuple" = u at h
  have no : ∀ t : String, Value.type "tuple" = .type t → t ≠ "tuple" → False := fun t e n => n (Value.type.inj e).symm
  cases h with
  | kTuple h c => exact .kTuple h c
  | fTuple h => exact .fTuple (tup_hid st h (fun z => by cases z))
  | kList h c => exact (no _ ht (by decide)).elim
  | kDict h c => exact (no _ ht (by decide)).elim
  | set h => exact (no _ ht (by decide)).elim
  | fDict h => exact (no _ ht (by decide)).elim
  | base b =>
    refine .base ?_
    cases b with
    | tup h => exact .tup (tup_hid st h (fun z => by cases z))
    | lst h => exact (no _ ht (by decide)).elim
    | frz h => exact (no _ ht (by decide)).elim
    | dK h => exact (no _ ht (by decide)).elim
    | dT h => exact (no _ ht (by decide)).elim
    | ins h cl ha hn htk hm => cases ht
mutual
theorem Da.hidT (st : H p = some (.lst l)) : ∀ (d : PyData) (v : V), tupOnly d = true → Da K H v d → Da K (hid p H) v d
  | .none, _, _, h => by cases h; exact .non
  | .bool b, _, _, h => by cases h; exact .bl b
  | .int i, _, _, h => by cases h; exact .int i
  | .str x, _, _, h => by cases h; exact .str x
  | .list ds, _, t, _ => by cases t
  | .tuple ds, _, t, h => by
    cases h with
    | tup hs ht ha => exact .tup (sqT_hid st hs) (tyT_hid st ht) (DaAll.hidT st ds _ t ha)
  | .dict _, _, t, _ => by cases t
theorem DaAll.hidT (st : H p = some (.lst l)) : ∀ (ds : List PyData) (vs : List V), tupOnlys ds = true → DaAll K H vs ds → DaAll K (hid p H) vs ds
  | [], _, _, h => by cases h; exact .nil
  | d :: ds, _, t, h => by
    obtain ⟨t1, t2⟩ := Bool.and_eq_true_iff.mp (show (tupOnly d && tupOnlys ds) = true from t)
    cases h with
    | cons h1 h2 => exact .cons (Da.hidT st d _ t1 h1) (DaAll.hidT st ds _ t2 h2)
end
end
theorem tup_strs : ∀ xs : List Str, tupOnlys (xs.map .str) = true
  | [] => rfl
  | _ :: r => by
    show (true && tupOnlys (r.map .str)) = true
    rw [tup_strs r]
    rfl
theorem tup_words : ∀ ms : List (Str × List Str), tupOnlys (ms.map wOf) = true
  | [] => rfl
  | p :: r => by
    show ((true && (tupOnlys (p.2.map .str) && true)) && tupOnlys (r.map wOf)) = true
    rw [tup_words r, tup_strs]
    rfl
/-- a book stays while numbers are drawn -/
theorem BookW.go {K : PySem.W.Frag} {D : DS} {H H' : Hp} {C b : Addr} {ys : List Str} {ms : List (Str × List Str)} (h : BookW K H C b ys (ms.map wOf)) (ny : ys ≠ []) (d : Drw D H) (g : Go D H H') : BookW K H' C b ys (ms.map wOf) := by
  obtain ⟨dx, fa, wa, vs, e1, e2, e3, e4⟩ := h.ex
  obtain ⟨_, _, _, i, v, m, c, st, _⟩ := d
  have n1 : b ≠ D.p := fun z => by
    rw [z, st] at e1
    cases e1
  have n2 : fa ≠ D.p := fun z => by
    rw [z, st] at e2
    cases ys with
    | nil => exact ny rfl
    | cons y r => cases e2
  have n3 : wa ≠ D.p := fun z => by
    rw [z, st] at e3
    cases e3
    cases ms with
    | nil => cases e4
    | cons p0 r =>
      cases e4 with
      | cons h1 h2 =>
        cases r with
        | nil => cases h2
        | cons p1 r =>
          cases h2 with
          | cons h3 h4 => cases h3
  exact ⟨dx, fa, wa, vs, g.old n1 e1, g.old n2 e2, g.old n3 e3, ((DaAll.hidT st _ _ (tup_words ms) e4).to g.sm).to hid_same⟩
theorem tup_ne {D : DS} {H : Hp} {a : Addr} {us : List V} (d : Drw D H) (e : H a = some (.tup us)) : a ≠ D.p := fun z => by
  obtain ⟨_, _, _, i, v, m, c, st, _⟩ := d
  rw [z, st] at e
  cases e
end Th
/-! range(n) as a value -/
namespace Th
open PySem PySem.Spec PyProof.Rows L2
theorem cr_range1 {X : Cx} : CallR X (.type "range") (fun vs H Q => ∃ j, vs = [V.int j] ∧ ∀ p, H p = none → Q (.ref p) (upd H p (.rng 0 j))) := by
  intro pins s σ H vs us Q I r h
  obtain ⟨j, rfl, q⟩ := h
  cases r with
  | cons rj r =>
    cases r
    obtain ⟨t, rfl⟩ := rj
    refine call_range_1 ⟨.ref s.heap.objs.size, upd H s.heap.objs.size (.rng 0 j), I.laid (t' := s.toks + 2) (fun b o e => Heap.get?_push_of_some _ e) (by omega) ?_, rfl, q _ (I.hok.fresh (Nat.le_refl _))⟩
    exact ⟨_, _, _, Heap.get?_push_size _ rfl⟩
end Th
/-! tuples cut, joined and turned while numbers are drawn -/
namespace Th
open PySem PySem.Spec PyProof.Rows L2
def rSlF (K : PySem.W.Frag) : V → Option Int → Option Int → Hp → VK → Prop := fun x lo hi H Q => ∃ (D : DS) (a : Addr) (xs : List V), x = .ref a ∧ Drw D H ∧ TupAt K (hid D.p H) a xs ∧ ∀ r H', Go D H H' → TupAt K (hid D.p H') r (cutV xs lo hi) → Q (.ref r) H'
theorem sl_tupF {X : Cx} : SlR X (rSlF X.K) := by
  intro pins s σ H x v vl vu lo hi sl Q I rx hs pl pu h
  obtain ⟨D, a, xs, rfl, d, ha, q⟩ := h
  exact sl_tupA pins s σ H _ v vl vu lo hi sl Q I rx hs pl pu ⟨a, xs, rfl, (ha.to hid_same).1, fun w => q a H (Go.refl d) (by rw [cutV_whole w]; exact ha), fun _ p np => q p _ ((Go.refl d).new np) (TupAt.new.hid (d.ne_new np))⟩
def rCatF (K : PySem.W.Frag) : R2 := fun x y H Q => ∃ (D : DS) (a b : Addr) (xs ys : List V), x = .ref a ∧ y = .ref b ∧ Drw D H ∧ TupAt K (hid D.p H) a xs ∧ TupAt K (hid D.p H) b ys ∧ xs.length + ys.length ≤ sizeLine ∧ ∀ r H', Go D H H' → TupAt K (hid D.p H') r (xs ++ ys) → Q (.ref r) H'
theorem op_catF {X : Cx} : OpR X (binaryOp .Add) (rCatF X.K) := by
  intro pins s σ H x y v u Q I rx ry h
  obtain ⟨D, a, b, xs, ys, rfl, rfl, d, ha, hb, hz, q⟩ := h
  refine op_catA pins s σ H _ _ v u Q I rx ry ⟨a, b, xs, ys, rfl, rfl, (ha.to hid_same).1, (hb.to hid_same).1, hz, fun e => ?_, fun _ e => ?_, fun _ _ p np => q p _ ((Go.refl d).new np) (TupAt.new.hid (d.ne_new np))⟩
  · exact q b H (Go.refl d) (by rw [e]; exact hb)
  · exact q a H (Go.refl d) (by rw [e, List.append_nil]; exact ha)
theorem Da.tupAt {K : PySem.W.Frag} {H : Hp} {v : V} {ds : List PyData} (h : Da K H v (.tuple ds)) : ∃ a xs, v = .ref a ∧ TupAt K H a xs ∧ DaAll K H xs ds := by
  cases h with
  | tup s t r => exact ⟨_, _, rfl, ⟨s, t⟩, r⟩
theorem da_cut {K : PySem.W.Frag} {H : Hp} {xs : List V} {ds : List PyData} (r : DaAll K H xs ds) (lo hi : Option Int) : ∃ ds', DaAll K H (cutV xs lo hi) ds' ∧ (∀ d ∈ ds', d ∈ ds) ∧ ds'.length ≤ ds.length := by
  unfold cutV
  exact ⟨_, (r.drop _).take _, fun d hd => List.mem_of_mem_drop (List.mem_of_mem_take hd), by rw [List.length_take, List.length_drop]; omega⟩
theorem DaAll.rev {K : PySem.W.Frag} {H : Hp} : ∀ {xs : List V} {ds : List PyData}, DaAll K H xs ds → DaAll K H xs.reverse ds.reverse
  | _, _, .nil => .nil
  | _, _, .cons a b => by
    rw [List.reverse_cons, List.reverse_cons]
    exact (DaAll.rev b).app (.cons a .nil)
end Th
/-! words of some finds, while numbers are drawn -/
namespace Th
open PySem PySem.Spec PyProof.Rows L2
theorem hid_updW {H : Hp} {L : Addr} {o : HO} : hid L (upd H L o) = hid L H := by
  funext a
  by_cases h : a = L
  · rw [h, hid_self, hid_self]
  · rw [hid_ne h, hid_ne h, upd_ne h]
theorem DaAll.mutW {K : PySem.W.Frag} {H : Hp} {L : Addr} {l : List V} {o : HO} {vs : List V} {ds : List PyData} (h : DaAll K H vs ds) (e : H L = some (.lst l)) (t : tupOnlys ds = true) : DaAll K (upd H L o) vs ds := by
  have h2 := DaAll.hidT e ds vs t h
  rw [← hid_updW (o := o)] at h2
  exact h2.to hid_same
theorem DaAll.hidW {K : PySem.W.Frag} {D : DS} {H : Hp} {vs : List V} {ds : List PyData} (h : DaAll K H vs ds) (dr : Drw D H) (t : tupOnlys ds = true) : DaAll K (hid D.p H) vs ds := by
  obtain ⟨_, _, _, i, w, m, c, st, _⟩ := dr
  exact DaAll.hidT st ds vs t h
theorem Da.hidW {K : PySem.W.Frag} {D : DS} {H : Hp} {v : V} {d : PyData} (h : Da K H v d) (dr : Drw D H) (t : tupOnly d = true) : Da K (hid D.p H) v d := by
  obtain ⟨_, _, _, i, w, m, c, st, _⟩ := dr
  exact Da.hidT st d v t h
theorem DaAll.goW {K : PySem.W.Frag} {D : DS} {H H' : Hp} {vs : List V} {ds : List PyData} (h : DaAll K H vs ds) (dr : Drw D H) (g : Go D H H') (t : tupOnlys ds = true) : DaAll K H' vs ds := ((h.hidW dr t).to g.sm).to hid_same
/-- a lot of some finds, in a tuple -/
def lotT (l : List Str) : PyData := .tuple (l.map .str)
structure LotW (ys l : List Str) : Prop where
  ne : l ≠ []
  nm : ∀ x ∈ l, isNm x = true
  rs : risB l = true
  sub : ∀ x ∈ l, x ∈ ys
theorem risW {l : List Str} (h : l.Pairwise leS) (n : l.Nodup) : risB l = true := by
  refine pair_ris ((h.and n).imp fun {x y} z => ?_)
  refine Classical.byContradiction fun w => z.2 ?_
  exact cs_inj (Std.le_antisymm (Std.not_lt.mp z.1) (Std.not_lt.mp w))
theorem lotW_of {ys l : List Str} (n : ∀ y ∈ ys, isNm y = true) (ne : l ≠ []) (nd : l.Nodup) (so : sortedS l = true) (i : ∀ x ∈ l, x ∈ ys) : LotW ys l := ⟨ne, fun x hx => n x (i x hx), risW (sorted_pair so) nd, i⟩
theorem LotW.len {ys l : List Str} (h : LotW ys l) : l.length ≤ ys.length := nodup_sub (ris_nodup h.rs) h.sub
theorem tup_lots : ∀ ls : List (List Str), tupOnlys (ls.map lotT) = true
  | [] => rfl
  | a :: r => by
    show (tupOnlys (a.map PyData.str) && tupOnlys (r.map lotT)) = true
    rw [tup_strs a, tup_lots r]
    rfl
end Th
/-! a lambda tried, beside the tables of other defs with lambdas -/
namespace Th
open PySem PySem.Spec PyProof.Rows L2
theorem pe_tryT {X : Cx} {T : List (Addr × Str)} {x a : Str} {st : Stmt} {g c P : Addr} {fdg : FuncData} {k : Nat} {Ng : List Str} {TT : (XK → Hp → VK → Prop) → Hp → VK → Prop} {params : Arguments} {body : Expr} {scope : Scope} {t : XK → TE} {p lpos pos : Pos} (Fg : Fun X.K x x st g fdg) (hm : X.mg x = some (.ref g)) (hb : Binds X.K fdg [a] []) (hg : Gl X x)
    (Sg : FnScope Ng [a] (defScope st)) (hNg : Ng[0]? = some a) (hva : Vis (defScope st) a) (hG : ∀ (cdg : Value), LamX.GivesTo X Ng x (defScope st) g cdg (defBody st) a (X.env.qual ++ "<lambda>") TT)
    (TB : LamX.TabB X.base X.mg c P) (hcode : X.env.code = .ref c) (hmT : (P, X.env.qual ++ "<lambda>") ∈ T) (hu : ∀ p ∈ T, p.1 = P → p.2 = X.env.qual ++ "<lambda>") (hr : Room (k + 2) X.A) (L : LamX.LamS X.env.scope scope) (hdef : defaultsOf params X.env = ([], []))
    (hbind : ∀ (q : Str) (cl : List (Str × Addr)) (pm cv ctv : Value), bindArgs (PySem.W.kla_fn "<lambda>" q params body scope cl pm cv ctv) ⟨[], []⟩ = pure [])
    (hbody : ∀ (A : Around) (outer : List Env) (s : Shared) (H : Hp) (E : XK) (f c' : Addr), Room k (A.deeper (LamX.lamEnv X scope s.heap.objs.size f c')) → PE (LamX.lamCx X A outer s H E scope f c') body (t E))
    (hdb : (x == ("__debug__" : Str)) = false := by decide) (hd : (a == ("__debug__" : Str)) = false := by decide) (hcd : (a == ("__classdict__" : Str)) = false := by decide) :
    PE X (.Call (.Name x p) [.Lambda params body scope lpos] [] pos) (LamX.tLam T TT t) := by
  obtain ⟨oc, od, kV, doc, pm, an, cdv, ct, osl, rfl, lk, hco⟩ := Fg.ex
  exact LamX.pe_lamcall (T := T) hg hm Fg.kp lk hco hb Sg hNg hva (hG _) TB hcode hmT hu hr L hdef hbind hbody hdb hd hcd
/-- what stays while a def with lambdas runs -/
structure GoT (D : DS) (T : List (Addr × Str)) (H H' : Hp) : Prop where
  k : KeepD (hid D.p H) (hid D.p H')
  d : Drw D H'
  t : LamX.Tabs T H'
theorem GoT.refl {D : DS} {T : List (Addr × Str)} {H : Hp} (d : Drw D H) (t : LamX.Tabs T H) : GoT D T H H := ⟨fun _ _ e _ => e, d, t⟩
theorem GoT.trans {D : DS} {T : List (Addr × Str)} {H H1 H2 : Hp} (a : GoT D T H H1) (b : GoT D T H1 H2) : GoT D T H H2 := ⟨fun c o e p => b.k c o (a.k c o e p) p, b.d, b.t⟩
theorem GoT.go {D : DS} {T : List (Addr × Str)} {H H1 H2 : Hp} (a : GoT D T H H1) (g : Go D H1 H2) : GoT D T H H2 := ⟨fun c o e p => g.sm c o (a.k c o e p), g.st, Tabs.go a.t a.d g⟩
theorem GoT.sm {D : DS} {T : List (Addr × Str)} {H H1 H2 : Hp} (a : GoT D T H H1) (s : Same H1 H2) : GoT D T H H2 := a.go (Go.of a.d s)
theorem GoT.ext {D : DS} {T : List (Addr × Str)} {H H1 H2 : Hp} (a : GoT D T H H1) (e : LamX.ExtN H1 H2) (t : LamX.Tabs T H2) : GoT D T H H2 := by
  have k := keepD_ext e
  refine ⟨fun c o h p => ?_, k.drw a.d, t⟩
  obtain ⟨n, h2⟩ := hid_some (a.k c o h p)
  rw [hid_ne n]
  exact k c o h2 p
theorem GoT.old {D : DS} {T : List (Addr × Str)} {H H' : Hp} (a : GoT D T H H') {p : Addr} {o : HO} (n : p ≠ D.p) (e : H p = some o) (pl : Plain o) : H' p = some o := by
  have h := a.k p o (by rw [hid_ne n]; exact e) pl
  rw [hid_ne n] at h
  exact h
theorem GoT.da {K : PySem.W.Frag} {D : DS} {T : List (Addr × Str)} {H H' : Hp} (a : GoT D T H H') {v : V} {d : PyData} (h : Da K (hid D.p H) v d) : Da K (hid D.p H') v d := h.kd a.k
theorem GoT.daAll {K : PySem.W.Frag} {D : DS} {T : List (Addr × Str)} {H H' : Hp} (a : GoT D T H H') {vs : List V} {ds : List PyData} (h : DaAll K (hid D.p H) vs ds) : DaAll K (hid D.p H') vs ds := DaAll.keepD a.k _ _ h
end Th
/-! own methods and own classes called by keywords -/
namespace Th
open PySem PySem.Spec PyProof.Rows L2
/-- a method that is called by these keywords alone, too -/
def HasMK (P : Program) (w : World) (K : PySem.W.Frag) (mg : Str → Option Value) (base : Heap) (C : Addr) (m : Str) (k : Nat) (ps : List Str) (sp : Sp) (ks : List Str) (g : List Value → List Value → List Value) (gV : List V → List V → List V) : Prop :=
  ∃ (f : Addr) (fd : FuncData), Meth K C m f ∧ FnOk P w K mg base (L2.CX P w) k f fd ps sp ∧ Binds K fd ps [] ∧ KBinds K fd ps ks g gV
/-- a class that is made by these keywords alone, too -/
def HasIK (P : Program) (w : World) (K : PySem.W.Frag) (mg : Str → Option Value) (base : Heap) (C : Addr) (k : Nat) (ps : List Str) (D : List V → Prop) (sp : Sp) (ks : List Str) (gV : List V → List V → List V) : Prop :=
  ∃ (fI : Addr) (fd : FuncData) (ds : List Value) (dvs : List V), Mk K C fI ∧ FnOk P w K mg base (L2.CX P w) k fI fd ps sp ∧ Binds K fd ps ds ∧ Vals dvs ds ∧ D dvs ∧ ∃ g, KBn K fd ps 1 ks g gV
section
variable {X : Cx} {CX : CXT} {k : Nat} {f C : Addr} {fd : FuncData} {ps ks : List Str} {sp : Sp} {E : XK} {m : Str} {pos apos : Pos} {o : Expr} {kws : List Keyword} {ta : TE} {tk : TA} {g : List Value → List Value → List Value} {gV : List V → List V → List V}
/-- o.m(k = v, ..) -/
def tMethK (C : Addr) (m : Str) (sp : Sp) (gV : List V → List V → List V) (E : XK) (ta : TE) (tk : TA) : TE := fun σ H Q => ta σ H fun x H1 => ∃ a dx fs, x = .ref a ∧ H1 a = some (.ins C dx fs) ∧ fs.lookup m = none ∧
  tk σ H1 fun zs H2 => sp (gV [x] zs) H2 Q E
theorem pe_methK0 {pl : Sem Bool} (he : PE X o ta) (c : Cls X.K C) (hm : Meth X.K C m f) (F : FnOk X.prog X.w X.K X.mg X.base CX k f fd ps sp) (hr : Room k X.A) (hb : KBinds X.K fd ps ks g gV) (hx : Passes CX X E) (hkw : PK X kws tk)
    (hall : (backToKw pos (keywordEach kws X.env)).all (·.1.isSome) = true := by rfl) (hks : (backToKw pos (keywordEach kws X.env)).filterMap (·.1) = ks := by rfl) (hpl : ((backTo pos (starEach [] X.env)).any (·.1) || (backToKw pos (keywordEach kws X.env)).any (·.1.isNone)) = false := by rfl)
    (ht : eval (.Call (.Attribute o m apos) [] kws pos) X.env = (do
      let ov ← eval o X.env
      standAt apos.atName
      let (f, first) ← holding [ov] (getMethod ov m pl)
      callWith pos f first (backTo pos (starEach [] X.env)) (backToKw pos (keywordEach kws X.env))) := by rfl) :
    PE X (.Call (.Attribute o m apos) [] kws pos) (tMethK C m sp gV E ta tk) := by
  refine ⟨fun pins s σ H Q I h => ?_⟩
  refine PySem.W.methodCall_KW (pl := pl) (thn (he.run pins s σ H _ I h) fun u s1 ⟨x, H1, I1, rx, a, dx, fs, ex, ea, l, q⟩ => ?_) ht
  subst ex
  obtain rfl : u = Value.ref a := rx
  refine getmeth_ok I1 ea c hm l ?_
  refine PySem.W.callWith_KW0 (first := [.ref a]) (h₀ := X.base) I.ok.mod.kin hm.kp hall ?_ hpl
  refine thn (hkw.run pos pins s1 σ H1 _ I1 q) fun ws s2 ⟨zs, H2, I2, rz, q2⟩ => ⟨I2.kIn, ?_⟩
  rw [hks]
  exact run_fnk (us := [.ref a]) (vs := [.ref a]) F hr hb hx I2 (.cons rfl .nil) rz q2
end
/-- self, then two values by their names in the other order -/
def gS2 {α : Type} : List α → List α → List α
  | [s], [b, a] => [s, a, b]
  | _, _ => []
theorem gS2_rel {vs : List V} {us : List Value} {zs : List V} {ws : List Value} (r1 : Vals vs us) (r2 : Vals zs ws) : Vals (gS2 vs zs) (gS2 us ws) := by
  match vs, us, zs, ws, r1, r2 with
  | [_], [_], [_, _], [_, _], .cons s .nil, .cons b (.cons a .nil) => exact .cons s (.cons a (.cons b .nil))
  | [], [], _, _, _, _ => exact .nil
  | _ :: _ :: _, _ :: _ :: _, _, _, _, _ => exact .nil
  | [_], [_], [], [], _, _ => exact .nil
  | [_], [_], [_], [_], _, _ => exact .nil
  | [_], [_], _ :: _ :: _ :: _, _ :: _ :: _ :: _, _, _ => exact .nil
theorem kbS2 {K : PySem.W.Frag} {x qual : Str} {st : Stmt} {f : Addr} {fd : FuncData} {p0 pa pb : Str} (F : Fun K x qual st f fd)
    (h : ∀ (kV doc pm : Value) (an : Option Addr) (cdv ct : Value) (s a b : Value), bindArgs (PySem.W.fnOf x qual (defArgs st) (defBody st) (defScope st) .none kV doc pm an cdv ct) ⟨[s], [(pb, b), (pa, a)]⟩ = pure [(p0, s), (pa, a), (pb, b)]) :
    KBinds K fd [p0, pa, pb] [pb, pa] gS2 gS2 := kb_of F gS2_rel fun kV doc pm an cdv ct us ws hl => by
  match us, ws, hl with
  | [s], [b, a], _ => exact h kV doc pm an cdv ct s a b
  | [], _, e => cases e
  | _ :: _ :: _, _, e => cases e
  | [_], [], e => cases e
  | [_], [_], e => cases e
  | [_], _ :: _ :: _ :: _, e => cases e
end Th
/-! own methods called by one keyword -/
namespace Th
open PySem PySem.Spec PyProof.Rows L2
/-- self, then one value by its name -/
def gS1 {α : Type} : List α → List α → List α
  | [s], [a] => [s, a]
  | _, _ => []
theorem gS1_rel {vs : List V} {us : List Value} {zs : List V} {ws : List Value} (r1 : Vals vs us) (r2 : Vals zs ws) : Vals (gS1 vs zs) (gS1 us ws) := by
  match vs, us, zs, ws, r1, r2 with
  | [_], [_], [_], [_], .cons s .nil, .cons a .nil => exact .cons s (.cons a .nil)
  | [], [], _, _, _, _ => exact .nil
  | _ :: _ :: _, _ :: _ :: _, _, _, _, _ => exact .nil
  | [_], [_], [], [], _, _ => exact .nil
  | [_], [_], _ :: _ :: _, _ :: _ :: _, _, _ => exact .nil
theorem kbS1 {K : PySem.W.Frag} {x qual : Str} {st : Stmt} {f : Addr} {fd : FuncData} {p0 pa : Str} (F : Fun K x qual st f fd)
    (h : ∀ (kV doc pm : Value) (an : Option Addr) (cdv ct : Value) (s a : Value), bindArgs (PySem.W.fnOf x qual (defArgs st) (defBody st) (defScope st) .none kV doc pm an cdv ct) ⟨[s], [(pa, a)]⟩ = pure [(p0, s), (pa, a)]) :
    KBinds K fd [p0, pa] [pa] gS1 gS1 := kb_of F gS1_rel fun kV doc pm an cdv ct us ws hl => by
  match us, ws, hl with
  | [s], [a], _ => exact h kV doc pm an cdv ct s a
  | [], _, e => cases e
  | _ :: _ :: _, _, e => cases e
  | [_], [], e => cases e
  | [_], _ :: _ :: _, e => cases e
theorem kbn_of1 {K : PySem.W.Frag} {fd : FuncData} {p0 pa : Str} (h : KBinds K fd [p0, pa] [pa] gS1 gS1) : KBn K fd [p0, pa] 1 [pa] gS1 gS1 := by
  refine ⟨fun s us ws X l1 l2 => ?_, fun r1 r2 => gS1_rel r1 r2⟩
  match us, ws, l1, l2 with
  | [a], [b], _, _ => exact h.to s [a] [b] X rfl
end Th
/-! a == b by an own __eq__, both of the class; len of a set of texts -/
namespace Th
open PySem PySem.Spec PyProof.Rows L2
def rEqOwn (C : Addr) (sp : Sp) (E : XK) : R2 := fun x y H Q => ∃ (a dx : Addr) (fs : List (Str × V)) (b dy : Addr) (gs : List (Str × V)), x = .ref a ∧ y = .ref b ∧ H a = some (.ins C dx fs) ∧ H b = some (.ins C dy gs) ∧ sp [x, y] H Q E
theorem op_eqOwn {X : Cx} {C f : Addr} {fd : FuncData} {CX : CXT} {k : Nat} {ps : List Str} {sp : Sp} {E : XK} (me : Meth X.K C "__eq__" f) (F : FnOk X.prog X.w X.K X.mg X.base CX k f fd ps sp) (hr : Room k X.A) (hb : Binds X.K fd ps []) (hx : Passes CX X E) :
    OpR X (compareOp .Eq) (rEqOwn C sp E) := by
  intro pins s σ H x y v u Q I rx ry h
  obtain ⟨a, dx, fs, b, dy, gs, rfl, rfl, ea, eb, q⟩ := h
  obtain rfl : v = Value.ref a := rx
  obtain rfl : u = Value.ref b := ry
  obtain ⟨_, O, _, _, _, _⟩ := ins_get I.hok ea
  obtain ⟨od, J, _⟩ := O.look
  obtain ⟨_, O', _, _, _, _⟩ := ins_get I.hok eb
  obtain ⟨od', J', _⟩ := O'.look
  obtain ⟨m, hF⟩ := I.fr
  show wpAny _ _ (richCompare .Eq _ _) _ _ _
  refine PySem.W.cmp_K (op := .Eq) (tb := .ref C) hr.units0 hF I.ok.mod.kin J J'.type ?_ me.at_ me.fn ?_
  · unfold PySem.W.notFirst
    rw [beq_self_eq_true]
    rfl
  · refine wpAny_mono (run_fn (us := [.ref a, .ref b]) (vs := [.ref a, .ref b]) F hr hb .nil hx I (.cons rfl (.cons rfl .nil)) q) (fun w s' z => ?_) fun _ _ e => e
    obtain ⟨z', H', I', rz, qz⟩ := z
    exact SlX.cmpback rz ⟨z', H', I', rz, qz⟩
/-- len of a set of texts -/
def rLenSetS (X : Cx) : List V → Hp → VK → Prop := fun vs H Q => ∃ (a : Addr) (l : List Str), vs = [V.ref a] ∧ H a = some (SetS X.prog X.w a l) ∧ Q (.int l.length) H
theorem call_lenSetS {X : Cx} : CallR X (.builtin "len") (rLenSetS X) := by
  intro pins s σ H vs us Q I r h
  obtain ⟨a, l, rfl, ha, q⟩ := h
  rw [Vals.ref1 r]
  obtain ⟨o, es, ep, t, ho, hx, hd, g, pm, nd, sz, ft, _⟩ := (show TxSet X.prog X.w s.heap a l from (I.hok a _ ha).1)
  have hl : es.size = l.length := by
    have := pm.length_eq
    rw [List.length_map, Array.length_toList] at this
    exact this
  have hb : (es.size : Int) < 2 ^ 63 := by
    have : es.size < scanBound := sz
    have : scanBound ≤ 2 ^ 40 := by decide +kernel
    omega
  refine call_len_set ho hx hd ft hb ⟨.int l.length, H, I.tok _, ⟨_, by rw [hl]⟩, q⟩
end Th
/-! tables: finds, each with its kinds, in a dict -/
namespace Th
open PySem PySem.Spec PyProof.Rows L2
/-- a dict's pairs: a find, the list of its kinds -/
inductive Held (H : Hp) : List (Key × V) → List (Str × List Str) → Prop
  | nil : Held H [] []
  | cons {L : Addr} {x : Str} {ks : List Str} {r : List (Key × V)} {hs : List (Str × List Str)} : H L = some (.lst (ks.map V.str)) → Held H r hs → Held H ((.inr x, .ref L) :: r) ((x, ks) :: hs)
theorem Held.len {H : Hp} : ∀ {kvs : List (Key × V)} {hs : List (Str × List Str)}, Held H kvs hs → kvs.length = hs.length
  | _, _, .nil => rfl
  | _, _, .cons _ r => congrArg Nat.succ r.len
theorem Held.to {H H' : Hp} (s : Same H H') : ∀ {kvs : List (Key × V)} {hs : List (Str × List Str)}, Held H kvs hs → Held H' kvs hs
  | _, _, .nil => .nil
  | _, _, .cons h r => .cons (s _ _ h) (r.to s)
theorem Held.keys {H : Hp} : ∀ {kvs : List (Key × V)} {hs : List (Str × List Str)}, Held H kvs hs → kvs.map (·.1) = (hs.map (·.1)).map Sum.inr
  | _, _, .nil => rfl
  | _, _, .cons _ r => by rw [List.map_cons, List.map_cons, List.map_cons, r.keys]
theorem Held.app {H : Hp} : ∀ {kvs kws : List (Key × V)} {hs gs : List (Str × List Str)}, Held H kvs hs → Held H kws gs → Held H (kvs ++ kws) (hs ++ gs)
  | _, _, _, _, .nil, r => r
  | _, _, _, _, .cons h t, r => .cons h (t.app r)
theorem Held.at {H : Hp} : ∀ {kvs : List (Key × V)} {hs : List (Str × List Str)} {i : Nat} {p : Str × List Str}, Held H kvs hs → hs[i]? = some p → ∃ L, kvs[i]? = some (.inr p.1, .ref L) ∧ H L = some (.lst (p.2.map V.str))
  | _, _, _, _, .nil, h => by simp at h
  | _, _, 0, p, .cons h _, e => by
    simp at e
    subst e
    exact ⟨_, rfl, h⟩
  | _, _, i + 1, p, .cons _ r, e => by
    simp only [List.getElem?_cons_succ] at e
    obtain ⟨L, h1, h2⟩ := r.at e
    exact ⟨L, by simpa using h1, h2⟩
theorem Held.no {H : Hp} : ∀ {kvs : List (Key × V)} {hs : List (Str × List Str)} {x : Str}, Held H kvs hs → x ∉ hs.map (·.1) → valV kvs (Sum.inr x : Key) = none
  | _, _, _, .nil, _ => rfl
  | _, _, x, .cons (x := y) h r, n => by
    rw [List.map_cons, List.mem_cons, not_or] at n
    rw [valV_neg (fun z => n.1 (Sum.inr.inj z).symm)]
    exact r.no n.2
theorem Held.val {H : Hp} : ∀ {kvs : List (Key × V)} {hs : List (Str × List Str)} {p : Str × List Str}, Held H kvs hs → (hs.map (·.1)).Nodup → p ∈ hs → ∃ L, valV kvs (Sum.inr p.1 : Key) = some (.ref L) ∧ H L = some (.lst (p.2.map V.str))
  | _, _, _, .nil, _, h => nomatch h
  | _, _, p, .cons (x := y) (ks := ks) h r, nd, hp => by
    rw [List.map_cons, List.nodup_cons] at nd
    rcases List.mem_cons.mp hp with e | hp
    · subst e
      exact ⟨_, valV_pos rfl, h⟩
    · have ne : ¬ (Sum.inr y : Key) = Sum.inr p.1 := fun z => nd.1 (by
        rw [Sum.inr.inj z]
        exact List.mem_map.mpr ⟨p, hp, rfl⟩)
      obtain ⟨L, e1, e2⟩ := r.val nd.2 hp
      exact ⟨L, by rw [valV_neg ne]; exact e1, e2⟩
/-- a table: its finds with their kinds -/
structure TabW (K : PySem.W.Frag) (H : Hp) (C b : Addr) (hs : List (Str × List Str)) : Prop where
  ex : ∃ (dx da : Addr) (kvs : List (Key × V)), H b = some (.ins C dx [("_held", .ref da)]) ∧ H da = some (.dK kvs) ∧ Held H kvs hs
theorem TabW.to {K : PySem.W.Frag} {H H' : Hp} {C b : Addr} {hs : List (Str × List Str)} (h : TabW K H C b hs) (s : Same H H') : TabW K H' C b hs := by
  obtain ⟨dx, da, kvs, e1, e2, e3⟩ := h.ex
  exact ⟨dx, da, kvs, s _ _ e1, s _ _ e2, e3.to s⟩
theorem tb_h (f : V) : ([("_held", f)] : List (Str × V)).lookup ("_held" : Str) = some f := by rfl
theorem put_held (f : V) : putF "_held" f [] = ([("_held", f)] : List (Str × V)) := by rfl
theorem Held.go {D : DS} {H H' : Hp} (d : Drw D H) (g : Go D H H') : ∀ {kvs : List (Key × V)} {hs : List (Str × List Str)}, Held H kvs hs → Held H' kvs hs
  | _, _, .nil => .nil
  | _, _, .cons (ks := ks) h r => .cons (g.old (fun z => by
      obtain ⟨_, _, _, i, v, m, c, st, _⟩ := id d
      rw [z, st] at h
      cases ks with
      | nil => cases h
      | cons y r => cases h) h) (r.go d g)
theorem TabW.go {K : PySem.W.Frag} {D : DS} {H H' : Hp} {C b : Addr} {hs : List (Str × List Str)} (h : TabW K H C b hs) (d : Drw D H) (g : Go D H H') : TabW K H' C b hs := by
  obtain ⟨dx, da, kvs, e1, e2, e3⟩ := h.ex
  obtain ⟨_, _, _, i, v, m, c, st, _⟩ := id d
  exact ⟨dx, da, kvs, g.old (fun z => by rw [z, st] at e1; cases e1) e1, g.old (fun z => by rw [z, st] at e2; cases e2) e2, e3.go d g⟩
theorem Held.upd {H : Hp} {D : Addr} {kk : List (Key × V)} {o : HO} (e : H D = some (.dK kk)) : ∀ {kvs : List (Key × V)} {hs : List (Str × List Str)}, Held H kvs hs → Held (upd H D o) kvs hs
  | _, _, .nil => .nil
  | _, _, .cons h r => .cons (by
      rw [upd_ne (fun z => by rw [z, e] at h; cases h)]
      exact h) (r.upd e)
theorem Held.of {H H' : Hp} : ∀ {kvs : List (Key × V)} {hs : List (Str × List Str)}, Held H kvs hs → (∀ L xs, H L = some (.lst xs) → H' L = some (.lst xs)) → Held H' kvs hs
  | _, _, .nil, _ => .nil
  | _, _, .cons h r, f => .cons (f _ _ h) (r.of f)
/-! ### rows of data -/
/-- the kinds of a row -/
def rowK : PyData → List Str
  | .tuple [_, b] => ((itemsF b).getD []).map strD
  | _ => []
/-- names, each once, in a list or a tuple -/
def nmsD (d : PyData) : Bool := match itemsF d with
  | some ds => ds.all nmD && decide ((ds.map strD).Nodup)
  | none => false
/-- a find and its kinds -/
def rowD : PyData → Bool
  | .tuple [a, b] => nmD a && nmsD b
  | _ => false
/-- the pair of a row -/
def rowP (d : PyData) : Str × List Str := (markOf d, rowK d)
theorem nms_shape {d : PyData} (h : nmsD d = true) : ∃ ks : List Str, itemsF d = some (ks.map .str) ∧ Nms ks ∧ (d = .list (ks.map .str) ∨ d = .tuple (ks.map .str)) := by
  unfold nmsD at h
  cases hi : itemsF d with
  | none => rw [hi] at h; cases h
  | some ds =>
    rw [hi] at h
    obtain ⟨h1, h2⟩ := Bool.and_eq_true_iff.mp h
    have es := nms_strs h1
    refine ⟨ds.map strD, by rw [← es], ⟨of_decide_eq_true h2, fun x hx => ?_⟩, ?_⟩
    · obtain ⟨e, he, rfl⟩ := List.mem_map.mp hx
      have := List.all_eq_true.mp h1 e he
      rw [nmD_str this] at this
      exact this
    · rw [← es]
      cases d with
      | list _ => cases hi; exact .inl rfl
      | tuple _ => cases hi; exact .inr rfl
      | _ => cases hi
theorem row_shape {e : PyData} (h : rowD e = true) : ∃ (m : Str) (l : PyData) (ks : List Str), e = .tuple [.str m, l] ∧ isNm m = true ∧ itemsF l = some (ks.map .str) ∧ Nms ks ∧ rowP e = (m, ks) ∧ (l = .list (ks.map .str) ∨ l = .tuple (ks.map .str)) := by
  cases e with
  | tuple ds =>
    cases ds with
    | nil => cases h
    | cons a ds =>
      cases ds with
      | nil => cases h
      | cons b ds =>
        cases ds with
        | cons _ _ => cases h
        | nil =>
          obtain ⟨h1, h2⟩ := Bool.and_eq_true_iff.mp (show (nmD a && nmsD b) = true from h)
          have ea := nmD_str h1
          rw [ea] at h1
          obtain ⟨ks, hi, nm, sh⟩ := nms_shape h2
          refine ⟨strD a, b, ks, by rw [← ea], h1, hi, nm, ?_, sh⟩
          show (strD a, ((itemsF b).getD []).map strD) = (strD a, ks)
          rw [hi, Option.getD_some, List.map_map]
          exact congrArg (Prod.mk _) ((List.map_congr_left fun _ _ => rfl).trans (List.map_id ks))
  | _ => cases h
/-- a row of a table -/
def rowT (p : Str × List Str) : PyData := .tuple [.str p.1, .list (p.2.map .str)]
theorem rowT_P (p : Str × List Str) : rowP (rowT p) = p := by
  show (p.1, (p.2.map PyData.str).map strD) = p
  rw [List.map_map]
  exact congrArg (Prod.mk _) ((List.map_congr_left fun _ _ => rfl).trans (List.map_id p.2))
theorem rowT_PS (hs : List (Str × List Str)) : (hs.map rowT).map rowP = hs := by
  rw [List.map_map]
  exact (List.map_congr_left fun p _ => rowT_P p).trans (List.map_id hs)
theorem rowT_D {p : Str × List Str} (h1 : isNm p.1 = true) (h2 : Nms p.2) : rowD (rowT p) = true := by
  show (isNm p.1 && ((p.2.map PyData.str).all nmD && decide (((p.2.map PyData.str).map strD).Nodup))) = true
  have e : (p.2.map PyData.str).map strD = p.2 := by
    rw [List.map_map]
    exact (List.map_congr_left fun _ _ => rfl).trans (List.map_id p.2)
  rw [h1, e, decide_eq_true h2.1, Bool.true_and, Bool.and_true, List.all_map]
  exact List.all_eq_true.mpr fun x hx => h2.2 x hx
/-- all kinds of some rows, each once -/
def allK (rs : List (Str × List Str)) : List Str := once [] (rs.flatMap (·.2))
theorem allK_mem {rs : List (Str × List Str)} {x : Str} : x ∈ allK rs ↔ ∃ p ∈ rs, x ∈ p.2 := by
  unfold allK
  rw [once_mem]
  constructor
  · rintro (h | h)
    · exact (List.not_mem_nil h).elim
    · exact List.mem_flatMap.mp h
  · exact fun h => .inr (List.mem_flatMap.mpr h)
theorem allK_nodup (rs : List (Str × List Str)) : (allK rs).Nodup := once_nodup _ _ List.nodup_nil
/-- what is wrong with holdings -/
def tbDue (d : PyData) : Option (Str × PyData) := match itemsF d with
  | none => dueE "InvalidFind" (.int (-1))
  | some ds => if ds.length = 0 then dueE "InvalidFind" (.int (-1)) else if 12 < ds.length then dueE "TooMany" (.int 12) else match firstIx (fun k => !rowD (ds.getD k .none)) ds.length with
    | some k => dueE "InvalidFind" (.int (k : Int))
    | none => match dupAt (ds.map markOf) with
      | some x => dueE "DuplicateName" (.str x)
      | none => if 10 < (allK (ds.map rowP)).length then dueE "TooMany" (.int 10) else none
theorem tb_none {d : PyData} (h : itemsF d = none) : tbDue d = dueE "InvalidFind" (.int (-1)) := by
  unfold tbDue
  rw [h]
theorem tb_no {d : PyData} {ds : List PyData} (h : itemsF d = some ds) (l : ds.length = 0) : tbDue d = dueE "InvalidFind" (.int (-1)) := by
  unfold tbDue
  rw [h]
  show (if ds.length = 0 then _ else _) = _
  rw [if_pos l]
theorem tb_many {d : PyData} {ds : List PyData} (h : itemsF d = some ds) (l : 12 < ds.length) : tbDue d = dueE "TooMany" (.int 12) := by
  unfold tbDue
  rw [h]
  show (if ds.length = 0 then _ else _) = _
  rw [if_neg (by omega), if_pos l]
theorem tb_bad {d : PyData} {ds : List PyData} (h : itemsF d = some ds) (l : ds.length ≤ 12) {k : Nat} {e : PyData} (hk : ds[k]? = some e) (n : rowD e = false) (a : ∀ (j : Nat) (e' : PyData), j < k → ds[j]? = some e' → rowD e' = true) : tbDue d = dueE "InvalidFind" (.int (k : Int)) := by
  unfold tbDue
  rw [h]
  show (if ds.length = 0 then _ else _) = _
  rw [if_neg (by have := lt_of_get hk; omega), if_neg (by omega), firstIx_some (lt_of_get hk) (by rw [getDd hk, n]; rfl) fun j hj => ?_]
  obtain ⟨e', he⟩ : ∃ e', ds[j]? = some e' := ⟨_, List.getElem?_eq_getElem (Nat.lt_trans hj (lt_of_get hk))⟩
  rw [getDd he, a j e' hj he]
  rfl
theorem tb_mid {d : PyData} {ds : List PyData} (h : itemsF d = some ds) (l0 : ds.length ≠ 0) (l : ds.length ≤ 12) (a : ∀ (j : Nat) (e' : PyData), ds[j]? = some e' → rowD e' = true) :
    tbDue d = match dupAt (ds.map markOf) with
      | some x => dueE "DuplicateName" (.str x)
      | none => if 10 < (allK (ds.map rowP)).length then dueE "TooMany" (.int 10) else none := by
  unfold tbDue
  rw [h]
  show (if ds.length = 0 then _ else _) = _
  rw [if_neg l0, if_neg (by omega), firstIx_none fun j hj => ?_]
  obtain ⟨e', he⟩ : ∃ e', ds[j]? = some e' := ⟨_, List.getElem?_eq_getElem hj⟩
  rw [getDd he, a j e' he]
  rfl
theorem tb_dup {d : PyData} {ds : List PyData} (h : itemsF d = some ds) (l0 : ds.length ≠ 0) (l : ds.length ≤ 12) (a : ∀ (j : Nat) (e' : PyData), ds[j]? = some e' → rowD e' = true) {x : Str} (hx : dupAt (ds.map markOf) = some x) : tbDue d = dueE "DuplicateName" (.str x) := by
  rw [tb_mid h l0 l a, hx]
theorem tb_kinds {d : PyData} {ds : List PyData} (h : itemsF d = some ds) (l0 : ds.length ≠ 0) (l : ds.length ≤ 12) (a : ∀ (j : Nat) (e' : PyData), ds[j]? = some e' → rowD e' = true) (hx : dupAt (ds.map markOf) = none) (hk : 10 < (allK (ds.map rowP)).length) : tbDue d = dueE "TooMany" (.int 10) := by
  rw [tb_mid h l0 l a, hx]
  exact if_pos hk
theorem tb_good {d : PyData} {ds : List PyData} (h : itemsF d = some ds) (l0 : ds.length ≠ 0) (l : ds.length ≤ 12) (a : ∀ (j : Nat) (e' : PyData), ds[j]? = some e' → rowD e' = true) (hx : dupAt (ds.map markOf) = none) (hk : ¬ 10 < (allK (ds.map rowP)).length) : tbDue d = none := by
  rw [tb_mid h l0 l a, hx]
  exact if_neg hk
theorem nodup_of_take' {xs : List Str} (a : ∀ (j : Nat) (y : Str), xs[j]? = some y → y ∉ xs.take j) : xs.Nodup := by
  rw [List.Nodup, List.pairwise_iff_getElem]
  intro i j hi hj hij e
  exact a j _ (List.getElem?_eq_getElem hj) (List.mem_of_getElem? (i := i) (by rw [List.getElem?_take, if_pos hij, List.getElem?_eq_getElem hi, e]))
/-- holdings that are well -/
theorem tb_ok {d : PyData} (h : tbDue d = none) : ∃ ds, itemsF d = some ds ∧ ds.length ≠ 0 ∧ ds.length ≤ 12 ∧ (∀ e ∈ ds, rowD e = true) ∧ (ds.map markOf).Nodup ∧ (allK (ds.map rowP)).length ≤ 10 := by
  cases hi : itemsF d with
  | none => rw [tb_none hi] at h; cases h
  | some ds =>
    by_cases l0 : ds.length = 0
    · rw [tb_no hi l0] at h; cases h
    by_cases l : 12 < ds.length
    · rw [tb_many hi l] at h; cases h
    have h' := h
    unfold tbDue at h'
    rw [hi] at h'
    have h' : (if ds.length = 0 then _ else _) = _ := h'
    rw [if_neg l0, if_neg l] at h'
    cases hf : firstIx (fun k => !rowD (ds.getD k .none)) ds.length with
    | some k => rw [hf] at h'; cases h'
    | none =>
      have hall : ∀ (j : Nat) (e' : PyData), ds[j]? = some e' → rowD e' = true := fun j e' he => by
        unfold firstIx at hf
        have := List.find?_eq_none.mp hf j (List.mem_range.mpr (lt_of_get he))
        rw [getDd he] at this
        simpa using this
      have hrow : ∀ e ∈ ds, rowD e = true := fun e he => by
        obtain ⟨j, hj⟩ := List.getElem?_of_mem he
        exact hall j e hj
      cases hd : dupAt (ds.map markOf) with
      | some x => rw [tb_dup hi l0 (by omega) hall hd] at h; cases h
      | none =>
        refine ⟨ds, rfl, l0, by omega, hrow, ?_, ?_⟩
        · refine nodup_of_take' fun j y hy hm => ?_
          unfold dupAt firstIx at hd
          have hd := Option.map_eq_none_iff.mp hd
          have := List.find?_eq_none.mp hd j (List.mem_range.mpr (lt_of_get hy))
          rw [getD_of hy] at this
          exact this (decide_eq_true hm)
        · refine Classical.byContradiction fun z => ?_
          rw [tb_kinds hi l0 (by omega) hall hd (by omega)] at h
          cases h
/-- the table that some rows make: the finds ascending, the kinds of each ascending -/
structure TabOf (rs hs : List (Str × List Str)) : Prop where
  pm : (hs.map (·.1)).Perm (rs.map (·.1))
  so : sortedS (hs.map (·.1)) = true
  ks : ∀ p ∈ hs, ∃ q ∈ rs, q.1 = p.1 ∧ p.2.Perm q.2 ∧ sortedS p.2 = true
end Th
/-! a text looked up in a dict by texts; a table's find -/
namespace Th
open PySem PySem.Spec PyProof.Rows L2
theorem op_inK {X : Cx} (hu : X.A.units + 65 < cLine) : OpR X (compareOp .In) (fun x y H Q => ∃ (z : Str) (a : Addr) (kvs : List (Key × V)), x = .str z ∧ y = .ref a ∧ H a = some (.dK kvs) ∧ Q (.bl (valV kvs (Sum.inr z : Key)).isSome) H) := by
  intro pins s σ H x y v u Q I rx ry h
  obtain ⟨z, a, kvs, rfl, rfl, e, q⟩ := h
  cases ry
  refine d_in (by omega) I (.inl ⟨kvs, Sum.inr z, .inl e, rfl, rfl⟩) rx fun s' I' => ?_
  exact ⟨.bl _, H, I', rfl, q⟩
theorem Held.isSome {H : Hp} {kvs : List (Key × V)} {hs : List (Str × List Str)} (h : Held H kvs hs) (nd : (hs.map (·.1)).Nodup) (x : Str) : (valV kvs (Sum.inr x : Key)).isSome = decide (x ∈ hs.map (·.1)) := by
  by_cases hx : x ∈ hs.map (·.1)
  · obtain ⟨p, hp, rfl⟩ := List.mem_map.mp hx
    obtain ⟨L, e, _⟩ := h.val nd hp
    rw [e, decide_eq_true hx]
    rfl
  · rw [h.no hx, decide_eq_false hx]
    rfl
end Th
/-! walks over a list or a tuple at once; comprehensions of dicts and with two clauses by a walk -/
namespace Th
open PySem PySem.Spec PyProof.Rows L2
theorem any_LT {K : PySem.W.Frag} {H : Hp} {a : Addr} {xs : List V} {R : It → Hp → Prop} (hq : SqL K H a xs ∨ SqT K H a xs) (h : ∀ J, Walk J xs.length (fun H' => Same H H') (YAt xs) → R J H) :
    (SqL K H a xs ∧ R (Itl K a) H) ∨ (SqT K H a xs ∧ R (Itt K a) H) := by
  rcases hq with hq | hq
  · exact .inl ⟨hq, h _ (walk_list.mono (fun H' s => Same.seq s hq) fun _ _ _ _ _ _ y => y)⟩
  · exact .inr ⟨hq, h _ (walk_tup.mono (fun H' s => same_t s hq) fun _ _ _ _ _ _ y => y)⟩
theorem any_LTe {K : PySem.W.Frag} {H : Hp} {a : Addr} {xs : List V} {R R' : Prop} (hq : SqL K H a xs ∨ SqT K H a xs) (h1 : Walk (Itl K a) xs.length (fun H' => Same H H') (YAt xs) → R) (h2 : Walk (Itt K a) xs.length (fun H' => Same H H') (YAt xs) → R') :
    (SqL K H a xs ∧ R) ∨ (SqT K H a xs ∧ R') := by
  rcases hq with hq | hq
  · exact .inl ⟨hq, h1 (walk_list.mono (fun H' s => Same.seq s hq) fun _ _ _ _ _ _ y => y)⟩
  · exact .inr ⟨hq, h2 (walk_tup.mono (fun H' s => same_t s hq) fun _ _ _ _ _ _ y => y)⟩
/-- a walk over a list or a tuple, told as one -/
def iAny (K : PySem.W.Frag) (tl : TE) : TI := fun σ H R => tl σ H fun x H1 => ∃ a xs H0, x = .ref a ∧ (SqL K H0 a xs ∨ SqT K H0 a xs) ∧ Same H0 H1 ∧ ∀ J, Walk J xs.length (fun H' => Same H0 H') (YAt xs) → R J H1
theorem pi_any {X : Cx} {tg l : Expr} {tl : TE} (hl : PE X l tl) : PI X tg l (iAny X.K tl) := by
  constructor
  intro pins s σ H R I h
  refine thn (hl.run pins s σ H _ I h) ?_
  rintro v s1 ⟨x, H1, J, r1, a, xs, H0, rfl, hq, s0, q⟩
  obtain rfl : v = Value.ref a := r1
  have fp : ∀ b ∈ [s1.heap.objs.size], s1.heap.objs.size ≤ b := fun b hb => by rw [List.mem_singleton.mp hb]; exact Nat.le_refl _
  have key : (SqL X.K H1 a xs ∧ R (Itl X.K a) H1) ∨ (SqT X.K H1 a xs ∧ R (Itt X.K a) H1) := by
    rcases hq with hq | hq
    · exact .inl ⟨Same.seq s0 hq, q _ (walk_list.mono (fun H' s => Same.seq s hq) fun _ _ _ _ _ _ y => y)⟩
    · exact .inr ⟨same_t s0 hq, q _ (walk_tup.mono (fun H' s => same_t s hq) fun _ _ _ _ _ _ y => y)⟩
  rcases key with ⟨hq, q⟩ | ⟨hq, q⟩
  · obtain ⟨its, rv, p, hz⟩ := J.list hq
    refine wpAny_pyIter_list p.isList ?_
    exact ⟨s1.heap.objs.size, [s1.heap.objs.size], _, _, H1, rfl, J.kept (t' := s1.toks) fun b o e => Heap.get?_push_of_some _ e, turn_list a _, ⟨_, Heap.get?_push_size _ rfl, rfl, rfl⟩, fun b hb => J.fpOk (fp b hb) (J.hok.fresh (fp b hb)), q⟩
  · obtain ⟨its, rv, p, hz⟩ := J.tuple hq
    refine wpAny_pyIter_tuple (show s1.heap.IsTuple a its.toArray from p) ?_
    exact ⟨s1.heap.objs.size, [s1.heap.objs.size], _, _, H1, rfl, J.kept (t' := s1.toks) fun b o e => Heap.get?_push_of_some _ e, turn_tuple a _, ⟨_, Heap.get?_push_size _ rfl, rfl, rfl⟩, fun b hb => J.fpOk (fp b hb) (J.hok.fresh (fp b hb)), q⟩
section
variable {J : It} {n : Nat} {G : Hp → Prop} {Y : Nat → Hp → V → Hp → Prop}
/-- a comprehension of a dict -/
theorem dc_it (w : Walk J n G Y) {g : TG} {tt : TT} {tk tv : TE} {vs : List Nat} {σ : L2.St} {H1 : Hp} {D : Addr} {Qd : Hp → Prop} (Pv : Nat → Hp → Prop) (h0 : Pv 0 (upd H1 D (.dK []))) (hG : ∀ i H, i ≤ n → Pv i H → G H)
    (hs : ∀ i x H H', i < n → Pv i H → Y i H x H' → g x (wipe σ vs) H' fun σ2 H2 => wipe σ2 vs = wipe σ vs ∧ tt σ2 H2 fun b H3 =>
      if b = true then tk σ2 H3 fun y H4 => tv σ2 H4 fun z H5 => ∃ kvs k, y = kV k ∧ H5 D = some (.dK kvs) ∧ kvs.length < sizeLine ∧ Pv (i + 1) (upd H5 D (.dK (putK kvs k z))) else Pv (i + 1) H3) (hd : ∀ H, Pv n H → Qd H) :
    ∃ W : Nat → Nat → Hp → Prop, (∃ m, W 0 m (upd H1 D (.dK []))) ∧ ∀ i m H, W i m H →
      (J.stop i H ∧ Qd H) ∨ (J.go i H ∧ ∃ Nx : Hp → Prop, (∀ H', Nx H' → ∃ m', m' < m ∧ W (i + 1) m' H') ∧ ∀ x H', J.yld i H x H' → g x (wipe σ vs) H' fun σ2 H2 => wipe σ2 vs = wipe σ vs ∧ tt σ2 H2 fun b H3 =>
        if b = true then tk σ2 H3 fun y H4 => tv σ2 H4 fun z H5 => ∃ kvs k, y = kV k ∧ H5 D = some (.dK kvs) ∧ kvs.length < sizeLine ∧ Nx (upd H5 D (.dK (putK kvs k z))) else Nx H3) := by
  refine ⟨fun i m H => m = n - i ∧ i ≤ n ∧ Pv i H, ⟨n, by simp, Nat.zero_le _, h0⟩, ?_⟩
  rintro i m H ⟨rfl, hi, p⟩
  have q := hG i H hi p
  by_cases hlt : i < n
  · refine .inr ⟨w.goes i H hlt q, Pv (i + 1), fun H' p' => ⟨n - (i + 1), by omega, rfl, hlt, p'⟩, fun x H' y => hs i x H H' hlt p (w.yields i H x H' hlt q y)⟩
  · have e : i = n := by omega
    subst e
    exact .inl ⟨w.stops H q, hd H p⟩
/-- the outer clause of two -/
theorem lc2_it (w : Walk J n G Y) {g : TG} {tt : TT} {F : (Hp → Prop) → L2.St → Hp → Prop} {vs : List Nat} {σ : L2.St} {H1 : Hp} {D : Addr} {Qd : Hp → Prop} (Pv : Nat → Hp → Prop) (h0 : Pv 0 (upd H1 D (.lst []))) (hG : ∀ i H, i ≤ n → Pv i H → G H)
    (hs : ∀ i x H H', i < n → Pv i H → Y i H x H' → g x (wipe σ vs) H' fun σ2 H2 => wipe σ2 vs = wipe σ vs ∧ tt σ2 H2 fun b H3 =>
      if b = true then F (Pv (i + 1)) σ2 H3 else Pv (i + 1) H3) (hd : ∀ H, Pv n H → Qd H) :
    ∃ W : Nat → Nat → Hp → Prop, (∃ m, W 0 m (upd H1 D (.lst []))) ∧ ∀ i m H, W i m H →
      (J.stop i H ∧ Qd H) ∨ (J.go i H ∧ ∃ Nx : Hp → Prop, (∀ H', Nx H' → ∃ m', m' < m ∧ W (i + 1) m' H') ∧ ∀ x H', J.yld i H x H' → g x (wipe σ vs) H' fun σ2 H2 => wipe σ2 vs = wipe σ vs ∧ tt σ2 H2 fun b H3 =>
        if b = true then F Nx σ2 H3 else Nx H3) := by
  refine ⟨fun i m H => m = n - i ∧ i ≤ n ∧ Pv i H, ⟨n, by simp, Nat.zero_le _, h0⟩, ?_⟩
  rintro i m H ⟨rfl, hi, p⟩
  have q := hG i H hi p
  by_cases hlt : i < n
  · refine .inr ⟨w.goes i H hlt q, Pv (i + 1), fun H' p' => ⟨n - (i + 1), by omega, rfl, hlt, p'⟩, fun x H' y => hs i x H H' hlt p (w.yields i H x H' hlt q y)⟩
  · have e : i = n := by omega
    subst e
    exact .inl ⟨w.stops H q, hd H p⟩
/-- the inner clause -/
theorem in_it (w : Walk J n G Y) {g1 : TG} {tt1 : TT} {te : TE} {vs1 : List Nat} {σ2 : L2.St} {H4 : Hp} {D : Addr} {Nx : Hp → Prop} (Pv : Nat → Hp → Prop) (h0 : Pv 0 H4) (hG : ∀ i H, i ≤ n → Pv i H → G H)
    (hs : ∀ i x H H', i < n → Pv i H → Y i H x H' → g1 x (wipe σ2 vs1) H' fun σ3 H5 => wipe σ3 vs1 = wipe σ2 vs1 ∧ tt1 σ3 H5 fun b H6 =>
      if b = true then te σ3 H6 fun y H7 => ∃ acc, H7 D = some (.lst acc) ∧ acc.length < sizeLine ∧ Pv (i + 1) (upd H7 D (.lst (acc ++ [y]))) else Pv (i + 1) H6) (hd : ∀ H, Pv n H → Nx H) :
    ∃ W1 : Nat → Nat → Hp → Prop, (∃ m, W1 0 m H4) ∧ ∀ j k H, W1 j k H →
      (J.stop j H ∧ Nx H) ∨ (J.go j H ∧ ∃ Nx1 : Hp → Prop, (∀ H', Nx1 H' → ∃ k', k' < k ∧ W1 (j + 1) k' H') ∧ ∀ x H', J.yld j H x H' → g1 x (wipe σ2 vs1) H' fun σ3 H5 => wipe σ3 vs1 = wipe σ2 vs1 ∧ tt1 σ3 H5 fun b H6 =>
        if b = true then te σ3 H6 fun y H7 => ∃ acc, H7 D = some (.lst acc) ∧ acc.length < sizeLine ∧ Nx1 (upd H7 D (.lst (acc ++ [y]))) else Nx1 H6) := by
  refine ⟨fun i m H => m = n - i ∧ i ≤ n ∧ Pv i H, ⟨n, by simp, Nat.zero_le _, h0⟩, ?_⟩
  rintro i m H ⟨rfl, hi, p⟩
  have q := hG i H hi p
  by_cases hlt : i < n
  · refine .inr ⟨w.goes i H hlt q, Pv (i + 1), fun H' p' => ⟨n - (i + 1), by omega, rfl, hlt, p'⟩, fun x H' y => hs i x H H' hlt p (w.yields i H x H' hlt q y)⟩
  · have e : i = n := by omega
    subst e
    exact .inl ⟨w.stops H q, hd H p⟩
end
end Th
namespace Th
open PySem PySem.Spec PyProof.Rows L2
def rTupQ (K : PySem.W.Frag) : List V → Hp → VK → Prop := fun xs H Q => ∃ (p : Addr) (ys : List V), xs = [V.ref p] ∧ ((SqL K H p ys ∧ ∀ (l : Addr), H l = none → Q (V.ref l) (upd H l (HO.tup ys))) ∨ SqT K H p ys ∧ Q (V.ref p) H)
theorem call_tupQ {X : Cx} : CallR X (.type "tuple") (rTupQ X.K) := call_tuple_of
end Th
/-! tuples whose objects have no dict: written ones, data that are such -/
namespace Th
open PySem PySem.Spec PyProof.Rows L2
def tTupB (ta : TA) : TE := fun σ H Q => ta σ H fun xs H1 => xs.length ≤ sizeLine ∧ ∀ p o, H1 p = none → o.dict = none → Q (.ref p) (upd H1 p (.frz o (.tup xs)))
theorem pe_tupB {X : Cx} {es : List Expr} {x1} {pos : Pos} {t : TA} (h : PA X es t) : PE X (.Tuple es x1 pos) (tTupB t) := by
  refine ⟨fun pins s σ H Q I hq => ?_⟩
  refine wpAny_Tuple_spliced (thn (h.run pos pins s σ H _ I hq) fun us s1 ⟨xs, H1, I1, r, z, q⟩ => ⟨by rw [← r.length]; exact z, ?_⟩)
  have hf : H1 s1.heap.objs.size = none := I1.hok.fresh (Nat.le_refl _)
  refine ⟨.ref s1.heap.objs.size, upd H1 s1.heap.objs.size (.frz { cls := .type "tuple", data := .seq us.toArray } (.tup xs)), I1.laid (t' := s1.toks) (fun b u e => Heap.get?_push_of_some _ e) (Nat.le_refl _) ?_, rfl, q _ _ hf rfl⟩
  exact ⟨Heap.get?_push_size _ rfl, z, us, r, IsTup.new _ _⟩
/-- a datum that is a tuple stands in a tuple without a dict -/
def BarV (K : PySem.W.Frag) (H : Hp) (v : V) (d : PyData) : Prop := ∀ ds, d = .tuple ds → ∃ a xs, v = .ref a ∧ BareT H a xs ∧ DaAll K H xs ds
theorem BarV.to {K : PySem.W.Frag} {H H' : Hp} {v : V} {d : PyData} (h : BarV K H v d) (s : Same H H') : BarV K H' v d := fun ds e => by
  obtain ⟨a, xs, ev, b, al⟩ := h ds e
  exact ⟨a, xs, ev, b.to s, al.to s⟩
theorem barV_no {K : PySem.W.Frag} {H : Hp} {v : V} {d : PyData} (h : ∀ ds, d ≠ .tuple ds) : BarV K H v d := fun ds e => absurd e (h ds)
inductive BarA (K : PySem.W.Frag) (H : Hp) : List V → List PyData → Prop
  | nil : BarA K H [] []
  | cons {v : V} {vs : List V} {d : PyData} {ds : List PyData} : BarV K H v d → BarA K H vs ds → BarA K H (v :: vs) (d :: ds)
theorem BarA.to {K : PySem.W.Frag} {H H' : Hp} (s : Same H H') : ∀ {vs : List V} {ds : List PyData}, BarA K H vs ds → BarA K H' vs ds
  | _, _, .nil => .nil
  | _, _, .cons h r => .cons (h.to s) (r.to s)
theorem BarA.at {K : PySem.W.Frag} {H : Hp} : ∀ {vs : List V} {ds : List PyData} {i : Nat} {v : V} {d : PyData}, BarA K H vs ds → vs[i]? = some v → ds[i]? = some d → BarV K H v d
  | _, _, _, _, _, .nil, h, _ => by simp at h
  | _, _, 0, _, _, .cons h _, e, e' => by
    simp at e e'
    subst e
    subst e'
    exact h
  | _, _, i + 1, _, _, .cons _ r, e, e' => r.at (by simpa using e) (by simpa using e')
/-- what stands in H at places that are free in H0 -/
def frH (H0 H : Hp) : Hp := fun a => match H0 a with
  | none => H a
  | some _ => none
theorem frH_new {H0 H : Hp} {a : Addr} (h : H0 a = none) : frH H0 H a = H a := by
  unfold frH
  rw [h]
theorem frH_some {H0 H : Hp} {a : Addr} {o : HO} (h : frH H0 H a = some o) : H0 a = none ∧ H a = some o := by
  unfold frH at h
  cases e : H0 a with
  | none => rw [e] at h; exact ⟨rfl, h⟩
  | some _ => rw [e] at h; cases h
theorem frH_go {D : DS} {H0 H H' : Hp} (hp : H0 D.p ≠ none) (g : Go D H H') : Same (frH H0 H) (frH H0 H') := fun a o h => by
  obtain ⟨h0, h1⟩ := frH_some h
  rw [frH_new h0]
  exact g.old (fun z => hp (by rw [← z]; exact h0)) h1
theorem frH_sm {H0 H H' : Hp} (s : Same H H') : Same (frH H0 H) (frH H0 H') := fun a o h => by
  obtain ⟨h0, h1⟩ := frH_some h
  rw [frH_new h0]
  exact s _ _ h1
theorem frH_hid {D : DS} {H0 H : Hp} (hp : H0 D.p ≠ none) : Same (frH H0 H) (hid D.p H) := fun a o h => by
  obtain ⟨h0, h1⟩ := frH_some h
  rw [hid_ne (fun z => hp (by rw [← z]; exact h0))]
  exact h1
/-- and a place of H0 may change -/
theorem frH_upd {H0 H : Hp} {R : Addr} {o : HO} (h : H0 R ≠ none) : frH H0 (upd H R o) = frH H0 H := by
  funext a
  by_cases z : a = R
  · rw [z]
    unfold frH
    cases e : H0 R with
    | none => exact absurd e h
    | some _ => rfl
  · unfold frH
    rw [upd_ne z]
theorem frH_sub {H0 H1 H : Hp} (h : ∀ a, H1 a = none → H0 a = none) : Same (frH H1 H) (frH H0 H) := fun a o e => by
  obtain ⟨h0, h1⟩ := frH_some e
  rw [frH_new (h a h0)]
  exact h1
def LitF (K : PySem.W.Frag) (t : TE) (d : PyData) : Prop := ∀ (D : DS) (σ : L2.St) (H0 H : Hp) (Q : VK), Drw D H → H0 D.p ≠ none → (∀ a, H a = none → H0 a = none) → (∀ v H', Go D H H' → (∀ a, H' a = none → H0 a = none) → Da K (frH H0 H') v d → BarV K (frH H0 H') v d → Q v H') → t σ H Q
def LitFA (K : PySem.W.Frag) (t : TA) (ds : List PyData) : Prop := ∀ (D : DS) (σ : L2.St) (H0 H : Hp) (Q : List V → Hp → Prop), Drw D H → H0 D.p ≠ none → (∀ a, H a = none → H0 a = none) → (∀ vs H', Go D H H' → (∀ a, H' a = none → H0 a = none) → DaAll K (frH H0 H') vs ds → BarA K (frH H0 H') vs ds → Q vs H') → t σ H Q
section
variable {K : PySem.W.Frag}
theorem litF_c {v : V} {d : PyData} (h : ∀ H, Da K H v d) (n : ∀ ds, d ≠ .tuple ds) : LitF K (tC v) d := fun D σ H0 H Q dr hp hd q => q _ H (.refl dr) hd (h _) (barV_no n)
theorem litF_neg (i : Int) : LitF K (tUn (rU fun i => .int (-i)) (tC (.int i))) (.int (-i)) := fun D σ H0 H Q dr hp hd q => ⟨i, rfl, q _ H (.refl dr) hd (.int (-i)) (barV_no fun ds e => by cases e)⟩
theorem dom_new {H0 H : Hp} {p : Addr} {o : HO} (hd : ∀ a, H a = none → H0 a = none) : ∀ a, (upd H p o) a = none → H0 a = none := fun a h => by
  by_cases z : a = p
  · rw [z, upd_same] at h
    cases h
  · rw [upd_ne z] at h
    exact hd a h
theorem litF_tup {ta : TA} {ds : List PyData} (h : LitFA K ta ds) (hl : ds.length ≤ 100000) : LitF K (tTupB ta) (.tuple ds) := fun D σ H0 H Q dr hp hd q =>
  h D σ H0 H _ dr hp hd fun vs H1 g1 hd1 h1 h2 => ⟨sline (by rw [h1.len]; exact hl), fun p o np od => by
    have al := h1.to (frH_sm (H0 := H0) (same_new (o := .frz o (.tup vs)) np))
    have b : BareT (frH H0 (upd H1 p (.frz o (.tup vs)))) p vs := ⟨o, by rw [frH_new (hd1 p np)]; exact upd_same, od⟩
    exact q _ _ (g1.new np) (dom_new hd1) (bare_da b al) fun ds e => by cases e; exact ⟨p, vs, rfl, b, al⟩⟩
theorem litF_lst {ta : TA} {ds : List PyData} (h : LitFA K ta ds) (hl : ds.length ≤ 100000) : LitF K (tLst ta) (.list ds) := fun D σ H0 H Q dr hp hd q =>
  h D σ H0 H _ dr hp hd fun vs H1 g1 hd1 h1 h2 => ⟨sline (by rw [h1.len]; exact hl), fun p np => by
    have al := h1.to (frH_sm (H0 := H0) (same_new (o := .lst vs) np))
    exact q _ _ (g1.new np) (dom_new hd1) (Da.newL (by rw [frH_new (hd1 p np)]; exact upd_same) al) (barV_no fun ds e => by cases e)⟩
theorem litFA_nil : LitFA K tNil [] := fun D σ H0 H Q d hp hd q => q _ H (.refl d) hd .nil .nil
theorem litFA_cons {t : TE} {d : PyData} {ta : TA} {ds : List PyData} (h : LitF K t d) (r : LitFA K ta ds) : LitFA K (tCons t ta) (d :: ds) := fun D σ H0 H Q dr hp hd q =>
  h D σ H0 H _ dr hp hd fun v H1 g1 hd1 h1 b1 => r D σ H0 H1 _ g1.st hp hd1 fun vs H2 g2 hd2 h2 b2 => q _ H2 (g1.trans g2) hd2 (.cons (h1.to (frH_go hp g2)) h2) (.cons (b1.to (frH_go hp g2)) b2)
theorem litEs_okF {X : Cx} {f : Expr → Option PyData} (hf : ∀ e d, f e = some d → ∃ t, PE X e t ∧ LitF K t d ∧ NoStar X e) : ∀ (es : List Expr) (ds : List PyData), litE.litEs f es = some ds → ∃ t, PA X es t ∧ LitFA K t ds
  | [], ds, h => by
    cases h
    exact ⟨_, pa_nil, litFA_nil⟩
  | e :: es, ds, h => by
    unfold litE.litEs at h
    cases h1 : f e with
    | none => rw [h1] at h; cases h
    | some d =>
      rw [h1] at h
      cases h2 : litE.litEs f es with
      | none => rw [h2] at h; cases h
      | some r =>
        rw [h2] at h
        cases h
        obtain ⟨t, a1, a2, a3⟩ := hf e d h1
        obtain ⟨u, b1, b2⟩ := litEs_okF hf es r h2
        exact ⟨_, pa_cons a1 b1 (a3 es), litFA_cons a2 b2⟩
theorem litE_okF {X : Cx} : ∀ (n : Nat) (e : Expr) (d : PyData), litE n e = some d → ∃ t, PE X e t ∧ LitF K t d ∧ NoStar X e := by
  intro n
  induction n with
  | zero =>
    intro e d h
    unfold litE at h
    split at h
    · cases h; exact ⟨_, pe_non, litF_c (fun _ => .non) (fun _ e => by cases e), fun _ => rfl⟩
    · cases h; exact ⟨_, pe_bl, litF_c (fun _ => .bl _) (fun _ e => by cases e), fun _ => rfl⟩
    · cases h; exact ⟨_, pe_int, litF_c (fun _ => .int _) (fun _ e => by cases e), fun _ => rfl⟩
    · cases h; exact ⟨_, pe_str, litF_c (fun _ => .str _) (fun _ e => by cases e), fun _ => rfl⟩
    · cases h; exact ⟨_, pe_un un_neg pe_int, litF_neg _, fun _ => rfl⟩
    all_goals first | (exfalso; omega) | cases h
  | succ n ih =>
    intro e d h
    unfold litE at h
    split at h
    · cases h; exact ⟨_, pe_non, litF_c (fun _ => .non) (fun _ e => by cases e), fun _ => rfl⟩
    · cases h; exact ⟨_, pe_bl, litF_c (fun _ => .bl _) (fun _ e => by cases e), fun _ => rfl⟩
    · cases h; exact ⟨_, pe_int, litF_c (fun _ => .int _) (fun _ e => by cases e), fun _ => rfl⟩
    · cases h; exact ⟨_, pe_str, litF_c (fun _ => .str _) (fun _ e => by cases e), fun _ => rfl⟩
    · cases h; exact ⟨_, pe_un un_neg pe_int, litF_neg _, fun _ => rfl⟩
    · rename_i m es x1 p he
      obtain rfl := Nat.succ.inj he
      cases h1 : litE.litEs (litE n) es with
      | none => rw [h1] at h; cases h
      | some ds =>
        rw [h1] at h
        simp only [Option.bind_some] at h
        split at h
        · cases h
          obtain ⟨t, b1, b2⟩ := litEs_okF ih es ds h1
          exact ⟨_, pe_tupB b1, litF_tup b2 (by omega), fun _ => rfl⟩
        · cases h
    · rename_i m es p he
      obtain rfl := Nat.succ.inj he
      cases h1 : litE.litEs (litE n) es with
      | none => rw [h1] at h; cases h
      | some ds =>
        rw [h1] at h
        simp only [Option.bind_some] at h
        split at h
        · cases h
          obtain ⟨t, b1, b2⟩ := litEs_okF ih es ds h1
          exact ⟨_, pe_lst b1, litF_lst b2 (by omega), fun _ => rfl⟩
        · cases h
    · cases h
/-- a written list, its items told -/
def LitFL (K : PySem.W.Frag) (t : TE) (ds : List PyData) : Prop := ∀ (D : DS) (σ : L2.St) (H0 H : Hp) (Q : VK), Drw D H → H0 D.p ≠ none → (∀ a, H a = none → H0 a = none) → (∀ p vs H', Go D H H' → p ≠ D.p → H' p = some (.lst vs) → DaAll K (frH H0 H') vs ds → BarA K (frH H0 H') vs ds → Q (.ref p) H') → t σ H Q
theorem litL_okF {X : Cx} {n : Nat} {e : Expr} {ds : List PyData} (h : litE (n + 1) e = some (.list ds)) : ∃ t, PE X e t ∧ LitFL K t ds := by
  unfold litE at h
  split at h
  · cases h
  · cases h
  · cases h
  · cases h
  · cases h
  · rename_i m es x1 p he
    obtain rfl := Nat.succ.inj he
    cases h1 : litE.litEs (litE n) es with
    | none => rw [h1] at h; cases h
    | some ds =>
      rw [h1] at h
      simp only [Option.bind_some] at h
      split at h
      · cases h
      · cases h
  · rename_i m es p he
    obtain rfl := Nat.succ.inj he
    cases h1 : litE.litEs (litE n) es with
    | none => rw [h1] at h; cases h
    | some ds =>
      rw [h1] at h
      simp only [Option.bind_some] at h
      split at h
      · cases h
        obtain ⟨t, b1, b2⟩ := litEs_okF (K := K) (X := X) (litE_okF n) es ds h1
        refine ⟨_, pe_lst b1, fun D σ H0 H Q dr hp hd q => b2 D σ H0 H _ dr hp hd fun vs H1 g1 hd1 h1 h2 => ⟨sline (by rw [h1.len]; omega), fun p np => ?_⟩⟩
        have z := g1.st.ne_new np
        have sm := frH_sm (H0 := H0) (same_new (o := .lst vs) np)
        exact q _ _ _ (g1.new np) z upd_same (h1.to sm) (h2.to sm)
      · cases h
  · cases h
end
end Th
/-! defs that run while no repr is under way: the text of a list or a tuple can be told in them -/
namespace Th
open PySem PySem.Spec PyProof.Rows L2
/-- no repr is under way -/
abbrev Calm (A : Around) : Prop := A.guards = some []
theorem Calm.deeper {A : Around} (g : Calm A) (env : Env) : Calm (A.deeper env) := g
/-- a def's promise, where no repr is under way -/
structure FnG (P : Program) (w : World) (K : PySem.W.Frag) (mg : Str → Option Value) (base : Heap) (CX : CXT) (k : Nat) (f : Addr) (fd : FuncData) (ps : List Str) (sp : Sp) : Prop where
  len : ∀ vs H Q E, sp vs H Q E → vs.length = ps.length
  run : ∀ (A : Around) (outer : List Env) (s : Shared) (H : Hp) (args : Args) (us : List Value) (vs : List V) (Q : VK) (E : XK), Calm A → Room k A → Env0 P w K mg base A outer s H → BindsTo s fd args (ps.zip us) → Vals vs us → sp vs H Q E →
    codeAny (model P w) A (.call (.ref f) args) (CR CX outer P w H s Q E) s
section
variable {P : Program} {w : World} {K : PySem.W.Frag} {mg : Str → Option Value} {base : Heap} {CX : CXT} {k j : Nat} {f : Addr} {fd : FuncData} {N ps : List Str} {sp : Sp}
theorem FnG.of (F : FnOk P w K mg base CX k f fd ps sp) : FnG P w K mg base CX k f fd ps sp := ⟨F.len, fun A o s H args us vs Q E _ => F.run A o s H args us vs Q E⟩
theorem FnG.mono (F : FnG P w K mg base CX j f fd ps sp) (h : j ≤ k) : FnG P w K mg base CX k f fd ps sp := ⟨F.len, fun A o s H args us vs Q E g hr => F.run A o s H args us vs Q E g (hr.mono h)⟩
/-- a def by its body -/
theorem fnG_of {name qual : Str} {params : Arguments} {body : List Stmt} {scope : Scope} {dV kV doc pm cdv ct oc : Value} {an od : Option Addr} {osl : Array (Option Value)}
    (lk : K.lookup f = some ⟨oc, od, .func (PySem.W.fnOf name qual params body scope dV kV doc pm an cdv ct), osl⟩) (hcd : PySem.W.codeIn K cdv qual = true) (S : FnScope N ps scope) (len : ∀ vs H Q E, sp vs H Q E → vs.length = ps.length)
    (hbody : ∀ (A : Around) (outer : List Env) (s : Shared) (H : Hp) (vs : List V) (Q : VK) (E : XK), Calm A → Room k (A.deeper (envOfC qual scope s.heap.objs.size f cdv)) → sp vs H Q E →
      ∃ t, PSs (cxOf CX P w K mg base N qual scope f cdv A outer s H E) body t ∧ t { nx := fun _ H' => Q .non H', rt := Q } (L2.start N vs) H) :
    FnG P w K mg base CX (k + 1) f (PySem.W.fnOf name qual params body scope dV kV doc pm an cdv ct) ps sp := by
  refine ⟨len, fun A outer s H args us vs Q E g hr e0 hb r hsp => ?_⟩
  have old : ∀ b o, base.get? b = some o → s.heap.get? b = some o := fun b o e => (e0.bs b o e).1
  have lim := e0.mod.nolimit.keeps old
  have ways : ∀ y ∈ ps.zip us, scope.names.lookup y.1 = some .local ∨ (scope.names.lookup y.1 = some .cell ∧ ((cellsFrom (s.heap.objs.size + 1) scope.names []).lookup y.1).isSome = true) := by
    rintro ⟨n, v⟩ hy
    exact (S.par n (List.of_mem_zip hy).1).imp id fun q => ⟨q, PySem.W.cellsFrom_some _ _ _ (.inl q)⟩
  obtain ⟨t, ht, hq⟩ := hbody A outer s H vs Q E g (hr.deeper _) hsp
  refine codeAny_call_function hr.depth ((e0.mod.kin.keeps old) _ _ lk) rfl S.co S.gen rfl (PySem.W.codeRec_of (e0.mod.kin.keeps old) hcd) (hb _ _ _ _ ?_)
  refine wpAny_newFunctionEnv_cells S.kind ways fun env he s1 x => ?_
  cases he
  refine ⟨lim.keeps x.toInCall.keep, codeAny_func ?_⟩
  have I := inv_start (CX := CX) (E := E) S hr.hd e0 (len _ _ _ _ hsp) r x
  refine wpAny_mono (ht.run [] s1 _ H _ I hq) (fun fl s' hs => ?_) fun e s' hs => hs
  cases fl with
  | ret u => obtain ⟨v, σ', H', J, rv, q⟩ := hs; exact ⟨v, H', J.os, J.bare, J.base, J.hok, rv, q⟩
  | next => obtain ⟨σ', H', J, q⟩ := hs; exact ⟨V.non, H', J.os, J.bare, J.base, J.hok, rfl, q⟩
  | brk => obtain ⟨_, _, _, q⟩ := hs; exact q.elim
  | cont => obtain ⟨_, _, _, q⟩ := hs; exact q.elim
/-- a def whose code object is known -/
theorem okCG {x qual : Str} {st : Stmt} {c : Addr} (F : Fun K x qual st f fd) (hc : fd.code = .ref c) (S : FnScope N ps (defScope st)) (len : ∀ vs H Q E, sp vs H Q E → vs.length = ps.length)
    (hbody : ∀ (A : Around) (outer : List Env) (s : Shared) (H : Hp) (vs : List V) (Q : VK) (E : XK), Calm A → Room k (A.deeper (envOfC qual (defScope st) s.heap.objs.size f (.ref c))) → sp vs H Q E →
      ∃ t, PSs (cxOf CX0 P w K mg base N qual (defScope st) f (.ref c) A outer s H E).nox (defBody st) t ∧ t { nx := fun _ H' => Q .non H', rt := Q } (L2.start N vs) H) : FnG P w K mg base CX0 (k + 1) f fd ps sp := by
  obtain ⟨oc, od, kV, doc, pm, an, cdv, ct, osl, rfl, lk, hcd⟩ := F.ex
  obtain rfl : cdv = .ref c := hc
  refine fnG_of lk hcd S len fun A outer s H vs Q E g hr hsp => ?_
  obtain ⟨t, h, q⟩ := hbody A outer s H vs Q E g hr hsp
  exact ⟨t, h.nox, q⟩
/-- a def without lambdas -/
theorem okG {x qual : Str} {st : Stmt} (F : Fun K x qual st f fd) (S : FnScope N ps (defScope st)) (len : ∀ vs H Q E, sp vs H Q E → vs.length = ps.length)
    (hbody : ∀ (cdv : Value) (A : Around) (outer : List Env) (s : Shared) (H : Hp) (vs : List V) (Q : VK) (E : XK), Calm A → Room k (A.deeper (envOfC qual (defScope st) s.heap.objs.size f cdv)) → sp vs H Q E →
      ∃ t, PSs (cxOf CX0 P w K mg base N qual (defScope st) f cdv A outer s H E).nox (defBody st) t ∧ t { nx := fun _ H' => Q .non H', rt := Q } (L2.start N vs) H) : FnG P w K mg base CX0 (k + 1) f fd ps sp := by
  obtain ⟨oc, od, kV, doc, pm, an, cdv, ct, osl, rfl, lk, hcd⟩ := F.ex
  refine fnG_of lk hcd S len fun A outer s H vs Q E g hr hsp => ?_
  obtain ⟨t, h, q⟩ := hbody cdv A outer s H vs Q E g hr hsp
  exact ⟨t, h.nox, q⟩
end
section
variable {X : Cx} {CX : CXT} {k : Nat} {f : Addr} {fd : FuncData} {ps : List Str} {sp : Sp} {dvs : List V} {ds : List Value} {E : XK} {x : Str} {p pos : Pos} {e : Expr} {es : List Expr} {t : TA}
/-- f(e, ..), f a def of such a promise -/
theorem pe_callG (F : FnG X.prog X.w X.K X.mg X.base CX k f fd ps sp) (g : Calm X.A) (hr : Room k X.A) (hg : Gl X x) (hm : X.mg x = some (.ref f)) (hk : PySem.W.keepIn X.K (.ref f) = true) (hb : Binds X.K fd ps ds) (hd : Vals dvs ds) (hx : Passes CX X E)
    (ha : PA X (e :: es) t) (hdb : (x == ("__debug__" : Str)) = false := by decide) (he : starEach (e :: es) X.env = (false, eval e X.env) :: starEach es X.env := by rfl) (hpl : (backTo pos (starEach es X.env)).any (·.1) = false := by rfl) :
    PE X (.Call (.Name x p) (e :: es) [] pos) (tCall sp dvs E t) := by
  constructor
  intro pins s σ H Q I h
  refine wpAny_Call_Name_kw (ld_glob I hg hm ?_ hdb)
  refine PySem.W.callWith_K (h₀ := X.base) I.ok.mod.kin hk (thn (ha.run pos pins s σ H _ I h) fun us s1 ⟨vs, H1, I1, r, q⟩ => ⟨I1.kIn, ?_⟩) he hpl
  have r2 := r.append hd
  have hl : (us ++ ds).length = ps.length := r2.length.symm.trans (F.len _ _ _ _ q)
  refine wpAny_call (codeAny_mono (F.run X.A X.stack s1 H1 ⟨us, []⟩ (us ++ ds) (vs ++ dvs) Q E g hr I1.env0 (hb s1 us I1.kIn hl) r2 q) fun r s' hq => ?_)
  cases r with
  | error e => exact hx pins σ H1 s1 e s' I1 hq
  | ok fl =>
    cases fl with
    | ret u => exact I1.after hq
    | next => exact hq.elim
    | brk => exact hq.elim
    | cont => exact hq.elim
end
/-! ### the text of data -/
mutual
/-- how long a text of the data can be -/
def room : PyData → Nat
  | .none => 4
  | .bool _ => 5
  | .int i => (toString i : Str).length
  | .str x => (reprText x).length
  | .list xs => 2 + roomAll xs
  | .tuple xs => 3 + roomAll xs
  | .dict _ => 0
def roomAll : List PyData → Nat
  | [] => 0
  | x :: xs => room x + 2 + roomAll xs
end
theorem strLen0 (x : String) : ((x : Str)).length = (x : Str).length := rfl
theorem shownAll_len : ∀ ds : List PyData, (PyData.shownAll ds).length = ds.length
  | [] => rfl
  | _ :: ds => by
    show (PyData.shownAll ds).length + 1 = ds.length + 1
    rw [shownAll_len ds]
mutual
theorem shown_le : ∀ d : PyData, d.hasDict = false → d.shown.length ≤ room d
  | .none, _ => by simp only [PyData.shown, room]; decide
  | .bool b, _ => by cases b <;> simp only [PyData.shown, room] <;> decide
  | .int i, _ => by simp only [PyData.shown, room]; exact Nat.le_refl _
  | .str x, _ => by simp only [PyData.shown, room]; exact Nat.le_refl _
  | .list xs, h => by
    have h1 : PyData.hasDictAll xs = false := by simpa only [PyData.hasDict] using h
    have e := piled_le xs h1
    simp only [PyData.shown, room]
    rw [listText_eq_join, strLen_append, strLen_append]
    have a1 : (("[" : String) : Str).length = 1 := by decide
    have a2 : (("]" : String) : Str).length = 1 := by decide
    cases xs with
    | nil => rw [a1, a2]; simp only [PyData.shownAll]; decide
    | cons x r =>
      have j := join_length_add (PyData.shownAll (x :: r)) (by simp [PyData.shownAll])
      rw [a1, a2]
      omega
  | .tuple xs, h => by
    have h1 : PyData.hasDictAll xs = false := by simpa only [PyData.hasDict] using h
    have e := piled_le xs h1
    simp only [PyData.shown, room]
    unfold tupleText
    rw [strLen_append, strLen_append]
    have a1 : (("(" : String) : Str).length = 1 := by decide
    have a2 : ∀ b : Bool, (Str.ofString (if b then ",)" else ")")).length ≤ 2 := by intro b; cases b <;> decide
    have a3 := a2 ((PyData.shownAll xs).length == 1)
    rw [a1]
    cases xs with
    | nil => simp only [PyData.shownAll]; decide
    | cons x r =>
      have j := join_length_add (PyData.shownAll (x :: r)) (by simp [PyData.shownAll])
      have a4 : (Str.ofString (if (PyData.shownAll (x :: r)).length == 1 then ",)" else ")" : String)).length ≤ 2 := a3
      omega
  | .dict _, h => by simp only [PyData.hasDict] at h; cases h
theorem piled_le : ∀ ds : List PyData, PyData.hasDictAll ds = false → piled (PyData.shownAll ds) ≤ roomAll ds
  | [], _ => Nat.le_refl _
  | d :: ds, h => by
    have h1 : d.hasDict = false ∧ PyData.hasDictAll ds = false := by simpa only [PyData.hasDictAll, Bool.or_eq_false_iff] using h
    have e1 := shown_le d h1.1
    have e2 := piled_le ds h1.2
    simp only [PyData.shownAll, roomAll]
    rw [piled_cons]
    omega
end
/-- data whose text can be told -/
structure Told (k n : Nat) (d : PyData) : Prop where
  sh : d.showable = true
  nd : d.hasDict = false
  dp : d.depth ≤ k
  rm : room d ≤ n
theorem Told.mono {k n k' n' : Nat} {d : PyData} (h : Told k n d) (hk : k ≤ k') (hn : n ≤ n') : Told k' n' d := ⟨h.sh, h.nd, Nat.le_trans h.dp hk, Nat.le_trans h.rm hn⟩
theorem toldAll {k n : Nat} : ∀ {ds : List PyData}, (∀ d ∈ ds, Told k n d) → PyData.showableAll ds = true ∧ PyData.hasDictAll ds = false ∧ PyData.depthAll ds ≤ k ∧ roomAll ds ≤ ds.length * (n + 2)
  | [], _ => ⟨rfl, rfl, Nat.zero_le _, Nat.zero_le _⟩
  | d :: ds, h => by
    obtain ⟨a, b, c, e⟩ := toldAll fun x hx => h x (List.mem_cons_of_mem _ hx)
    have t := h d List.mem_cons_self
    have z := t.rm
    refine ⟨?_, ?_, ?_, ?_⟩
    · simp only [PyData.showableAll]; rw [t.sh, a]; rfl
    · simp only [PyData.hasDictAll]; rw [t.nd, b]; rfl
    · simp only [PyData.depthAll]; exact Nat.max_le.mpr ⟨t.dp, c⟩
    · simp only [roomAll]; rw [List.length_cons, Nat.succ_mul]; omega
theorem Told.list {k n : Nat} {ds : List PyData} (h : ∀ d ∈ ds, Told k n d) : Told (k + 1) (2 + ds.length * (n + 2)) (.list ds) := by
  obtain ⟨a, b, c, e⟩ := toldAll h
  exact ⟨by simp only [PyData.showable]; exact a, by simp only [PyData.hasDict]; exact b, by simp only [PyData.depth]; omega, by simp only [room]; omega⟩
theorem Told.tuple {k n : Nat} {ds : List PyData} (h : ∀ d ∈ ds, Told k n d) : Told (k + 1) (3 + ds.length * (n + 2)) (.tuple ds) := by
  obtain ⟨a, b, c, e⟩ := toldAll h
  exact ⟨by simp only [PyData.showable]; exact a, by simp only [PyData.hasDict]; exact b, by simp only [PyData.depth]; omega, by simp only [room]; omega⟩
theorem told_nm {x : Str} (h : isNm x = true) : Told 0 62 (.str x) := by
  obtain ⟨h1, h2, h3⟩ := isNm_iff.mp h
  have all : ∀ c ∈ cs abc, c < 16 ^ 8 := by decide +kernel
  have z := StrLaws.reprText_len x fun c hc => all c (h3 c (by unfold cs; exact hc))
  refine ⟨rfl, rfl, by simp only [PyData.depth]; exact Nat.le_refl _, ?_⟩
  simp only [room]
  omega
/-- data of a depth, with a bound of its text -/
structure Okd (j k n : Nat) (d : PyData) : Prop where
  lv : Lv j d
  td : Told k n d
theorem Okd.mono {j k n k' n' : Nat} {d : PyData} (h : Okd j k n d) (hk : k ≤ k') (hn : n ≤ n') : Okd j k' n' d := ⟨h.lv, h.td.mono hk hn⟩
theorem Okd.up {j k n : Nat} {d : PyData} (h : Okd j k n d) : Okd (j + 1) k n d := ⟨h.lv.up, h.td⟩
theorem Okd.list {j k n : Nat} {ds : List PyData} (h : ∀ d ∈ ds, Okd j k n d) (l : ds.length ≤ 60) : Okd (j + 1) (k + 1) (2 + ds.length * (n + 2)) (.list ds) := ⟨⟨l, fun e he => (h e he).lv⟩, Told.list fun e he => (h e he).td⟩
theorem Okd.tuple {j k n : Nat} {ds : List PyData} (h : ∀ d ∈ ds, Okd j k n d) (l : ds.length ≤ 60) : Okd (j + 1) (k + 1) (3 + ds.length * (n + 2)) (.tuple ds) := ⟨⟨l, fun e he => (h e he).lv⟩, Told.tuple fun e he => (h e he).td⟩
theorem okd_nm {j k n : Nat} {x : Str} (h : isNm x = true) (hn : 62 ≤ n) : Okd j k n (.str x) := ⟨lv_nm h, (told_nm h).mono (Nat.zero_le _) hn⟩
theorem odds_room : ∀ d ∈ odds, d.showable = true ∧ d.hasDict = false ∧ d.depth ≤ 3 ∧ room d ≤ 62 := by
  have h : odds.all (fun d => d.showable && !d.hasDict && decide (d.depth ≤ 3) && decide (room d ≤ 62)) = true := by decide +kernel
  intro d hd
  have := List.all_eq_true.mp h d hd
  rw [Bool.and_eq_true, Bool.and_eq_true, Bool.and_eq_true, Bool.not_eq_true', decide_eq_true_eq, decide_eq_true_eq] at this
  exact ⟨this.1.1.1, this.1.1.2, this.1.2, this.2⟩
theorem okd_odd {d : PyData} (h : d ∈ odds) {j k n : Nat} (hk : 3 ≤ k) (hn : 62 ≤ n) : Okd (j + 2) k n d := by
  obtain ⟨a, b, c, e⟩ := odds_room d h
  refine ⟨?_, a, b, by omega, by omega⟩
  have := odds_lv d h
  clear hk hn
  induction j with
  | zero => exact this
  | succ j ih => exact ih.up
section
variable {X : Cx} {p pos : Pos} {e : Expr} {es : List Expr} {t : TA}
/-- repr of a list or a tuple of data -/
theorem call_reprD (g : Calm X.A) (hu : X.A.units + 64 < cLine) : CallR X (.builtin "repr") (fun xs H Q => ∃ a d, xs = [.ref a] ∧ Dp X.K H (.ref a) d ∧ Told 20 sizeLine d ∧ Q (.str d.shown) H) := by
  intro pins s σ H xs us Q I r h
  obtain ⟨a, d, rfl, hd, T, q⟩ := h
  obtain ⟨u, rfl, r1⟩ := vals1 r
  cases r1
  obtain ⟨as, rd⟩ := Dp.reads I d (.ref a) (.ref a) hd rfl
  have z := T.dp
  refine repr_of_reads' rd T.sh (PyData.noDict_hsm T.nd) g (by omega) (fun _ _ e => e) (fun h' u tk hk => ⟨.str d.shown, H, I.kept hk, ⟨_, rfl⟩, q⟩) (Nat.le_trans (shown_le d T.nd) T.rm)
end
/-! ### a law that runs while no repr is under way -/
section
variable {P : Program} {w : World} {K : PySem.W.Frag} {mg mb : Str → Option Value} {CX : CXT} {k : Nat} {fa a : Addr} {cs : List (Addr × Addr)} {fd : FuncData} {x : Str} {sp : Sp} {s₁ : Shared} {vs : List Value} {ns : List Int}
open Classical in
/-- what a law's script and its tables are, told abstractly -/
noncomputable def hpG (K : PySem.W.Frag) (cs : List (Addr × Addr)) (a : Addr) (vs : List Value) (ns : List Int) : Hp := fun b =>
  if b ∈ cs.map (·.2) then some (.tbl #[])
  else if b = a ∧ K.lookup a = none then some (.frz { cls := .type "list", data := .seq vs.toArray } (.lst (ns.map V.int))) else none
theorem law_callG (KX : K.In s₁.heap) (hns : s₁.heap.Ns mainGlobals mg) (hb : s₁.heap.Ns builtinsNs mb) (hbb : ∀ x : Str, x ≠ "__name__" → mb x = bootBuiltins x) (hlim : s₁.heap.NoLimit) (hg : s₁.gens = #[])
    (hT : ∀ p ∈ cs, s₁.heap.get? p.2 = some { cls := .none, data := .fields #[] }) (nT : ∀ p ∈ cs, K.lookup p.2 = none) (C : ∀ p ∈ cs, PySem.W.CodeHd s₁.heap p.1 p.2)
    (hbm : ∃ (bm : Addr) (ob : Obj), mg "__builtins__" = some (.ref bm) ∧ bm ≠ builtinsNs ∧ s₁.heap.get? bm = some ob ∧ ob.cls = .type "module" ∧ ob.dict = some builtinsNs ∧ ob.data = .plain)
    (ha : s₁.heap.get? a = some { cls := .type "list", data := .seq vs.toArray }) (hi : IntsAre vs ns) (hl : ns.length ≤ sizeLine) (hr : Room k callerA)
    (F : ∀ base : Heap, K.In base → base.Ns mainGlobals mg → (∀ p ∈ cs, LamX.TabB base mg p.1 p.2) → FnG P w K mg base CX k fa fd [x] sp) (hbind : ∀ (s : Shared) (u : Value), BindsTo s fd ⟨[u], []⟩ [(x, u)])
    (hsp : ∀ H : Hp, (∀ p ∈ cs, H p.2 = some (.tbl #[])) → SqL K H a (ns.map V.int) → sp [.ref a] H (fun v _ => v = .bl true) fun _ _ _ => False)
    (hCX : ∀ H e s', CX [] H s₁ (fun _ _ _ => False) e s' → False) :
    codeAny (model P w) callerA (.call (.ref fa) ⟨[.ref a], []⟩) (fun r s' => r = .ok (.ret (.bool true)) ∧ OldK s₁.heap s'.heap ∧ s'.os = s₁.os ∧ AllBare s'.gens) s₁ := by
  have rv := vals_ints hi
  have lenV := hi.length
  -- the tables
  have tabs : ∀ b, b ∈ cs.map (·.2) → ∃ c, (c, b) ∈ cs := fun b h => by
    obtain ⟨⟨c, b'⟩, hp, e⟩ := List.mem_map.mp h
    cases e
    exact ⟨c, hp⟩
  have inT : ∀ p ∈ cs, p.2 ∈ cs.map (·.2) := fun p hp => List.mem_map.mpr ⟨p, hp, rfl⟩
  have aT : a ∉ cs.map (·.2) := fun z => by
    obtain ⟨c, hp⟩ := tabs a z
    have := hT _ hp
    rw [show ((c, a) : Addr × Addr).2 = a from rfl, ha] at this
    cases congrArg Obj.data (Option.some.inj this)
  obtain ⟨H, eH⟩ : ∃ H, H = hpG K cs a vs ns := ⟨_, rfl⟩
  have HT : ∀ p ∈ cs, H p.2 = some (.tbl #[]) := fun p hp => by rw [eH]; exact if_pos (inT p hp)
  have H0 : ∀ b, b ∉ cs.map (·.2) → ¬ (b = a ∧ K.lookup a = none) → H b = none := fun b h1 h2 => by rw [eH]; exact (if_neg h1).trans (if_neg h2)
  have HA : K.lookup a = none → H a = some (.frz { cls := .type "list", data := .seq vs.toArray } (.lst (ns.map V.int))) := fun h => by rw [eH]; exact (if_neg aT).trans (if_pos ⟨rfl, h⟩)
  -- what the heap holds besides
  have free : ∀ {b : Addr} {o : Obj}, s₁.heap.get? b = some o → (∀ vs n, o.data ≠ .seq vs n) → o.data ≠ .fields #[] → H b = none := fun {b o} e h1 h2 => H0 b
    (fun z => by
      obtain ⟨c, hp⟩ := tabs b z
      have := hT _ hp
      rw [show ((c, b) : Addr × Addr).2 = b from rfl, e] at this
      cases this
      exact h2 rfl)
    (fun z => by
      have := ha
      rw [← z.1, e] at this
      cases this
      exact h1 _ _ rfl)
  have stay : ∀ {b : Addr} {o : Obj}, s₁.heap.get? b = some o → (∀ vs n, o.data ≠ .seq vs n) → o.data ≠ .fields #[] → (hidT s₁.heap H).get? b = some o := fun e h1 h2 => hidT_get e (free e h1 h2)
  have stayD : ∀ {b : Addr} {m : Str → Option Value}, s₁.heap.Ns b m → (hidT s₁.heap H).Ns b m := fun ⟨o, es, ep, e, d, r⟩ => ⟨o, es, ep, stay e (fun _ _ z => by rw [d] at z; cases z) (fun z => by rw [d] at z; cases z), d, r⟩
  have hM : L2.Mod K mg (hidT s₁.heap H) := by
    refine ⟨fun b o e => hidT_get (KX b o e) (H0 b (fun z => ?_) fun z => ?_), stayD hns, ⟨mb, stayD hb, hbb⟩, ?_⟩
    · obtain ⟨c, hp⟩ := tabs b z
      rw [nT _ hp] at e
      cases e
    · rw [z.1, z.2] at e
      cases e
    · obtain ⟨mc, h1, h2⟩ := hlim
      exact ⟨mc, stayD h1, h2⟩
  have TB : ∀ p ∈ cs, LamX.TabB (hidT s₁.heap H) mg p.1 p.2 := fun p hp => by
    have hTp := hT p hp
    refine ⟨?_, ?_, fun z => ?_⟩
    · obtain ⟨o, us, file, tf, flags, tg, inF, text, tt, e1, r1, r2, r3, r⟩ := C p hp
      exact ⟨o, us, file, tf, flags, tg, inF, text, tt, stay e1 (fun _ _ z => by rw [r2] at z; cases z) (fun z => by rw [r2] at z; cases z; simp at r3), r1, r2, r3, r⟩
    · obtain ⟨bm, ob, b1, b2, b3, b4, b5, b6⟩ := hbm
      refine ⟨bm, ob, b1, b2, fun q => ?_, fun q => ?_, stay b3 (fun _ _ z => by rw [b6] at z; cases z) (fun z => by rw [b6] at z; cases z), b4, b5, b6⟩
      · obtain ⟨o, es, ep, e, hd, _⟩ := hns
        rw [← q, b3] at e
        cases e
        rw [b6] at hd
        cases hd
      · rw [← q, b3] at hTp
        cases hTp
        cases b6
    · obtain ⟨o, es, ep, e, hd, _⟩ := hns
      rw [z, hTp] at e
      cases e
      cases hd
  have hok : HOk P w H s₁.heap := fun b u e => by
    by_cases h1 : b ∈ cs.map (·.2)
    · obtain ⟨c, hp⟩ := tabs b h1
      have := HT _ hp
      rw [show ((c, b) : Addr × Addr).2 = b from rfl, e] at this
      cases this
      exact hT _ hp
    · by_cases h2 : b = a ∧ K.lookup a = none
      · obtain ⟨rfl, h3⟩ := h2
        rw [HA h3] at e
        cases e
        exact ⟨ha, by rw [List.length_map]; exact hl, vs, _, rv, ha⟩
      · rw [H0 b h1 h2] at e
        cases e
  have hS : SqL K H a (ns.map V.int) := by
    cases q : K.lookup a with
    | none => exact .inl (.inr ⟨_, HA q⟩)
    | some o =>
      have e := KX a o q
      rw [ha] at e
      cases e
      exact .inr ⟨_, vs.toArray, _, q, rfl, rfl, rfl, by rw [List.size_toArray, lenV]; exact hl, by simpa using rv⟩
  have e0 : Env0 P w K mg (hidT s₁.heap H) callerA [] s₁ H := ⟨rfl, hM, fun b o e => of_hidT e, Nat.le_of_eq (hidT_size _ _), trivial, fun b hb => absurd (show b ∈ ([] : List Addr) from hb) (by simp), hok, .of_eq hg⟩
  refine codeAny_mono ((F _ hM.kin hM.glob TB).run callerA [] s₁ H ⟨[.ref a], []⟩ [.ref a] [.ref a] _ _ rfl hr e0 (hbind s₁ (.ref a)) (.cons rfl .nil) (hsp H HT hS)) fun r s' h => ?_
  cases r with
  | error e => exact (hCX H e s' h).elim
  | ok fl =>
    cases fl with
    | next => exact h.elim
    | brk => exact h.elim
    | cont => exact h.elim
    | ret u =>
      obtain ⟨v, H', os, bare, un, hok', r', q⟩ := h
      cases (show v = .bl true from q)
      obtain rfl : u = Value.bool true := r'
      -- an old object: a table grows, all else is as it was
      have old : ∀ b o, s₁.heap.get? b = some o → s'.heap.get? b = some o ∨ ∃ c more, (c, b) ∈ cs ∧ o = { cls := .none, data := .fields #[] } ∧ s'.heap.get? b = some { cls := .none, data := .fields more } := fun b o e => by
        by_cases h1 : b ∈ cs.map (·.2)
        · obtain ⟨c, hp⟩ := tabs b h1
          obtain ⟨more, z⟩ := un.tbls b #[] (HT _ hp)
          have e2 := hT _ hp
          rw [show ((c, b) : Addr × Addr).2 = b from rfl, e] at e2
          refine .inr ⟨c, more, hp, Option.some.inj e2, ?_⟩
          have := hok' b _ z
          rw [Array.empty_append] at this
          exact this
        · by_cases h2 : b = a ∧ K.lookup a = none
          · obtain ⟨rfl, h3⟩ := h2
            have z := un.frzs b _ _ (HA h3)
            obtain ⟨e2, _⟩ := hok' b _ z
            rw [ha] at e
            cases e
            exact .inl e2
          · exact .inl (un.keep b o e (H0 b h1 h2) (by intro z; exact absurd (show b ∈ ([] : List Addr) from z) (by simp)) (by simp))
      refine ⟨rfl, ⟨fun b o e => ?_, fun b o e => ?_⟩, os, bare⟩
      · rcases old b o e with z | ⟨c, more, hp, rfl, z⟩
        · exact .inl z
        · exact .inr (.inl ⟨((C _ hp).tab (hT _ hp)).isCodeTable, rfl, #[], more, rfl, by rw [Array.empty_append]; exact z⟩)
      · rcases old b o e with z | ⟨c, more, hp, rfl, z⟩
        · exact ⟨_, z⟩
        · exact ⟨_, z⟩
end
/-- what is known of the law's promise at the head's heap -/
def LawG (l : PySem.W.OpenLaw) (w : World) (K : PySem.W.Frag) (CX : CXT) (k n : Nat) (x : Str) (mg : Str → Option Value) (fa : Addr) (h : Heap) : Prop :=
  ∃ (fd : FuncData) (cs : List (Addr × Addr)) (sp : Sp), (∀ p ∈ cs, h.get? p.2 = some { cls := .none, data := .fields #[] }) ∧ (∀ p ∈ cs, K.lookup p.2 = none) ∧ (∀ p ∈ cs, PySem.W.CodeHd h p.1 p.2) ∧ (∀ (s : Shared) (u : Value), BindsTo s fd ⟨[u], []⟩ [(x, u)]) ∧
    (∀ (H : Hp) (a : Addr) (ns : List Int), ns.length ≤ n → (∀ z ∈ ns, Builtin.Int.intBits z ≤ 1048576) → (∀ p ∈ cs, H p.2 = some (.tbl #[])) → SqL K H a (ns.map V.int) → sp [.ref a] H (fun v _ => v = .bl true) fun _ _ _ => False) ∧
    ∀ base : Heap, K.In base → base.Ns mainGlobals mg → (∀ p ∈ cs, LamX.TabB base mg p.1 p.2) → FnG l.prog w K mg base CX k fa fd [x] sp
theorem walkG {l : PySem.W.OpenLaw} {n k : Nat} {q : Program} {loose : List Str} {XP : (Str → Option Value) → Heap → Prop} {YP : World → Heap → Prop} {d : DefRec} {K : Params → PySem.W.Frag} {CX : World → CXT} {x : Str}
    (hn : l.most = some n) (hn2 : n ≤ sizeLine) (hdf : d.params.defaults = []) (hr : Room k callerA) (hY : ∀ (w : World) (h : Heap), YP w h → (K w.params).In h)
    (F : ∀ (w : World) (mg : Str → Option Value) (fa : Addr) (h : Heap), YP w h → (K w.params).In h → h.Ns mainGlobals mg → mg d.name = some (.ref fa) → LawG l w (K w.params) (CX w) k n x mg fa h)
    (hCX : ∀ (w : World) (H : Hp) (s : Shared) (e : Value) (s' : Shared), CX w [] H s (fun _ _ _ => False) e s' → False) :
    PySem.W.WalkO q loose XP YP l.row.toRowW d [] (fun f vs => PySem.call f vs) := by
  refine Att.attach_callB hn hdf fun w s₀ s₁ mg mb fa o pm cd doc a vs ns G Y ho hd hcd hmg hobj hints hlen hbits hg => ?_
  obtain ⟨fd, cs, sp, hT, nT, C, hb, hsp, hF⟩ := F w mg fa _ Y (hY w _ Y) G.T.g hmg
  exact law_callG (hY w _ Y) G.T.g G.T.b G.T.builtins G.T.nolimit hg hT nT C G.T.bmain hobj hints (Nat.le_trans hlen hn2) hr hF hb (fun H hH hS => hsp H a ns hlen hbits hH hS) fun H e s' => hCX w H s₁ e s'
end Th
/-! sorted(a list of pairs whose firsts are texts, all different) -/
namespace SrtR
open PySem PyProof.Rows L2
section
variable {prog : Program} {w : World} {A : Around} {E : Value → Shared → Prop} {s : Shared}
/-- v is a pair in the heap, x its first -/
def IsRow (h : Heap) (v : Value) (x : Str) : Prop := ∃ a o t r n, v = .ref a ∧ h.get? a = some o ∧ o.cls = .type "tuple" ∧ o.data = .seq #[.str x t, r] n
theorem IsRow.keeps {h h' : Heap} {v : Value} {x : Str} (p : IsRow h v x) (k : ∀ b o, h.get? b = some o → o.cls = .type "tuple" → h'.get? b = some o) : IsRow h' v x := by
  obtain ⟨a, o, t, r, n, e, ho, hc, hd⟩ := p
  exact ⟨a, o, t, r, n, e, k _ _ ho hc, hc, hd⟩
def ltR {α : Type} (k : α → Str) (v u : α) : Bool := decide ((k v).cps.toList < (k u).cps.toList)
theorem swo_row {α : Type} (k : α → Str) : SrtO.Swo (ltR k) := by
  refine ⟨fun x y h => decide_eq_false fun z => ?_, fun x y z h1 h2 => decide_eq_false fun q => ?_⟩
  · exact Std.lt_irrefl (Std.lt_trans (of_decide_eq_true h) z)
  · have a := Std.not_lt.mp (of_decide_eq_false h1)
    have b := Std.not_lt.mp (of_decide_eq_false h2)
    exact Std.not_lt.mpr (Std.le_trans a b) q
theorem row_cmp {vs : List Value} {k : Value → Str} (hp : ∀ v ∈ vs, IsRow s.heap v (k v)) (inj : ∀ v ∈ vs, ∀ u ∈ vs, k v = k u → v = u) : SrtO.Cmp prog w A s (tuples' true) (fun p => p.1 ∈ vs) (SrtO.lt2 (ltR k)) := by
  intro p q hm hm'
  have h1 := hp _ hm
  have h2 := hp _ hm'
  have hi := inj _ hm _ hm'
  show wpAny (model prog w) A (keyLt' (tuples' true) p.1 q.1) (fun r s' => s' = s ∧ r = ltR k p.1 q.1) (fun _ _ => False) s
  unfold ltR
  generalize k p.1 = x at h1 hi ⊢
  generalize k q.1 = x' at h2 hi ⊢
  obtain ⟨a, o, t, r, n, e, ho, hc, hd⟩ := h1
  obtain ⟨a', o', t', r', n', e', ho', hc', hd'⟩ := h2
  rw [e, e'] at hi ⊢
  refine PySem.W.kat_lt ho hd ho' hd' ?_
  show PySem.W.KatLex prog w A true (decide (2 < 2)) _ [(.str x t, .str x' t'), (r, r')] 0 s
  refine PySem.W.kat_cons (SeqAt.EqAt.str_str x t x' t' prog w _ _ ?_)
  refine PySem.W.kat_go (fun e1 => ?_) (fun e1 => ?_)
  · have ex : x = x' := by simpa using e1
    have ea : a = a' := Value.ref.inj (hi ex)
    subst ea ex
    rw [ho] at ho'
    cases ho'
    rw [hd] at hd'
    injection hd' with hd' _
    have er : r = r' := by
      have := congrArg Array.toList hd'
      injection this with _ this
      injection this
    subst er
    refine PySem.W.kat_yes (PySem.W.kat_cons (SeqAt.EqAt.same r prog w _ _ ?_))
    refine PySem.W.kat_go (fun _ => ?_) (fun e2 => nomatch e2)
    exact PySem.W.kat_yes (PySem.W.kat_nil ⟨rfl, (decide_eq_false fun z => Std.lt_irrefl z).symm⟩)
  · exact PySem.W.kat_no (oneLt_str ⟨rfl, rfl⟩)
theorem firsts_row {h : Heap} {k : Value → Str} : ∀ {vs : List Value}, (∀ v ∈ vs, IsRow h v (k v)) → ∃ fs : List Value, PySem.W.KatTups h vs fs ∧ fs.length = vs.length ∧ ∀ f ∈ fs, ∃ x t, f = Value.str x t
  | [], _ => ⟨[], PySem.W.KatTups.nil, rfl, fun _ hm => by simp at hm⟩
  | v :: vs, hp => by
    obtain ⟨fs, h1, h2, h3⟩ := firsts_row (vs := vs) fun v' hm => hp v' (List.mem_cons_of_mem _ hm)
    obtain ⟨a, o, t, r, n, e, ho, hc, hd⟩ := hp v (List.mem_cons_self ..)
    obtain ⟨x, ex⟩ : ∃ x, x = k v := ⟨_, rfl⟩
    rw [← ex] at hd
    subst e
    refine ⟨.str x t :: fs, PySem.W.KatTups.cons ho hc hd rfl h1, by rw [List.length_cons, List.length_cons, h2], fun f hm => ?_⟩
    rcases List.mem_cons.mp hm with rfl | hm
    · exact ⟨x, t, rfl⟩
    · exact h3 f hm
theorem row_sortable {a : Addr} {vs : List Value} {k : Value → Str} (h0 : 0 < vs.length) (hp : ∀ v ∈ vs, IsRow s.heap v (k v)) (inj : ∀ v ∈ vs, ∀ u ∈ vs, k v = k u → v = u) (ha : ∀ o, s.heap.get? a = some o → o.cls ≠ .type "tuple") : SrtO.SortableO prog w A s a vs (ltR k) := by
  intro h' keep
  have hp' : ∀ v ∈ vs, IsRow h' v (k v) := fun v hm => (hp v hm).keeps fun b o e c => keep b o (fun z => by subst z; exact ha o e c) e
  obtain ⟨fs, h1, h2, h3⟩ := firsts_row hp'
  refine ⟨tuples' true, fun Q E hq => ?_, row_cmp hp' inj⟩
  refine PySem.W.kat_kind (T := .type "str") h1 (by omega) (fun f hm => ?_) (by rfl) ?_
  · obtain ⟨x, t, rfl⟩ := h3 f hm
    exact PySem.W.Looks.now
  · have e : (Value.type "str" != Value.type "tuple") = true := by first | decide +kernel | rfl | decide
    rw [e]
    exact hq
theorem sorted_rows {l : Addr} {vs : List Value} {k : Value → Str} {Q : Value → Shared → Prop} (hl : s.heap.IsList l vs.toArray) (hz : vs.length ≤ sizeLine) (hp : ∀ v ∈ vs, IsRow s.heap v (k v)) (inj : ∀ v ∈ vs, ∀ u ∈ vs, k v = k u → v = u)
    (h : ∀ (h' : Heap) (d : Addr) (out : List Value), SrtO.Srtd (ltR k) out → SrtO.Stb (ltR k) out vs → (∀ b o, s.heap.get? b = some o → h'.get? b = some o) → s.heap.objs.size ≤ d → (∃ n, h'.get? d = some (seqObj "list" out.toArray n)) → Q (.ref d) { s with heap := h' }) :
    wpAny (model prog w) A (call (.builtin "sorted") [.ref l]) Q E s := by
  refine SrtO.sorted_ord (swo_row k) hl hz (fun h2 h₁ a ha kk => ?_) fun out hs hb => ?_
  · refine row_sortable (s := { s with heap := h₁ }) (by omega) (fun v hm => (hp v hm).keeps fun b o e _ => (kk b o e).2) inj fun o e => ?_
    have e' : some o = some (seqObj "list" vs.toArray 0) := e.symm.trans ha
    cases e'
    intro c
    exact absurd (Value.type.inj c) (by decide)
  · exact h _ _ out hs hb (fun b o e => sortedAll_old e) (Nat.le_succ _) (sortedAll_at s.heap vs out.toArray)
end
end SrtR
namespace L2
open PySem PySem.Spec PyProof.Rows
/-- the text that a pair in the heap starts with -/
def fstOf (h : Heap) (v : Value) : Str := match v with
  | .ref a => match h.get? a with
    | some o => match o.data with
      | Data.seq its _ => match its[0]? with
        | some (Value.str x _) => x
        | _ => Str.empty
      | _ => Str.empty
    | none => Str.empty
  | _ => Str.empty
/-- sorted(xs), xs pairs that start with the texts ms, all different -/
def rSortedR (K : PySem.W.Frag) : List V → Hp → VK → Prop := fun vs H Q => ∃ (a : Addr) (xs : List V) (ms : List Str), vs = [V.ref a] ∧ SqL K H a xs ∧ ms.length = xs.length ∧ ms.Nodup ∧ (∀ (i : Nat) (x : V) (m : Str), xs[i]? = some x → ms[i]? = some m → ∃ t r, x = V.ref t ∧ SqT K H t [.str m, r]) ∧
  ∀ (prs : List (V × Str)) p, prs.Perm (xs.zip ms) → (prs.map (·.2)).Pairwise Th.leS → H p = none → Q (.ref p) (upd H p (.lst (prs.map (·.1))))
theorem zip_back {h : Heap} : ∀ {its : List Value} {ms : List Str}, ms.length = its.length → (∀ (i : Nat) v m, its[i]? = some v → ms[i]? = some m → fstOf h v = m) → (its.map backV).zip ms = its.map fun v => (backV v, fstOf h v)
  | [], [], _, _ => rfl
  | [], _ :: _, l, _ => by simp at l
  | _ :: _, [], l, _ => by simp at l
  | v :: its, m :: ms, l, hh => by
    have e := hh 0 v m rfl rfl
    have ih := zip_back (h := h) (its := its) (ms := ms) (by simpa using l) fun i v m a b => hh (i + 1) v m a b
    show (backV v, m) :: (its.map backV).zip ms = (backV v, fstOf h v) :: its.map _
    rw [ih, e]
theorem cr_sortedR {X : Cx} : CallR X (.builtin "sorted") (rSortedR X.K) := by
  intro pins s σ H vs us Q I r h
  obtain ⟨a, xs, ms, rfl, hs, lm, nd, hx, q⟩ := h
  obtain ⟨its, rv, hl, hz⟩ := I.list hs
  obtain ⟨u, rfl, ru⟩ := vals1 r
  obtain rfl : u = Value.ref a := ru
  obtain ⟨e1, e2⟩ := refs_back rv fun x m => by
    obtain ⟨i, hi⟩ := List.getElem?_of_mem m
    have hlt : i < ms.length := by rw [lm]; exact (List.getElem?_eq_some_iff.mp hi).1
    obtain ⟨t, _, e, _⟩ := hx i x _ hi (List.getElem?_eq_getElem hlt)
    exact ⟨t, e⟩
  have li : ms.length = its.length := by rw [lm, e1, List.length_map]
  -- each value: a pair in the heap
  have row : ∀ (i : Nat) v m, its[i]? = some v → ms[i]? = some m → SrtR.IsRow s.heap v m ∧ fstOf s.heap v = m := fun i v m hv hm => by
    obtain ⟨t, rfl⟩ := e2 v (List.mem_of_getElem? hv)
    obtain ⟨t', r', e, ht⟩ := hx i (.ref t) m (by rw [e1, List.getElem?_map, hv]; rfl) hm
    cases e
    obtain ⟨its2, r2, ⟨o, ho, hc, n, hd⟩, _⟩ := I.tuple ht
    obtain ⟨u1, u2, rfl, ri, rj⟩ := vals2 r2
    obtain ⟨t1, rfl⟩ := ri
    refine ⟨⟨t, o, t1, u2, n, rfl, ho, hc, hd⟩, ?_⟩
    unfold fstOf
    simp only [ho, hd]
    rfl
  have rowm : ∀ v ∈ its, ∃ (i : Nat) (m : Str), its[i]? = some v ∧ ms[i]? = some m := fun v hv => by
    obtain ⟨i, hi⟩ := List.getElem?_of_mem hv
    have hlt : i < ms.length := by rw [li]; exact (List.getElem?_eq_some_iff.mp hi).1
    exact ⟨i, _, hi, List.getElem?_eq_getElem hlt⟩
  refine SrtR.sorted_rows (k := fstOf s.heap) hl.isList (by rw [← rv.length]; exact hz) (fun v hv => ?_) (fun v hv u hu e => ?_) fun h' d out h1 h2 kp hd hn => ?_
  · obtain ⟨i, m, hi, hm⟩ := rowm v hv
    obtain ⟨a, b⟩ := row i v m hi hm
    rw [b]
    exact a
  · obtain ⟨i, m, hi, hm⟩ := rowm v hv
    obtain ⟨j, m', hj, hm'⟩ := rowm u hu
    rw [(row i v m hi hm).2, (row j u m' hj hm').2] at e
    subst e
    have ij : i = j := by
      obtain ⟨l1, e1⟩ := List.getElem?_eq_some_iff.mp hm
      obtain ⟨l2, e2⟩ := List.getElem?_eq_some_iff.mp hm'
      exact (List.getElem_inj nd).mp (e1.trans e2.symm)
    subst ij
    rw [hi] at hj
    exact Option.some.inj hj
  · have pm : out.Perm its := h2.perm
    have h3 : ∀ u ∈ out, ∃ a, u = Value.ref a := fun u hu => e2 u (pm.mem_iff.mp hu)
    obtain ⟨n, hn⟩ := hn
    have zb : xs.zip ms = its.map fun v => (backV v, fstOf s.heap v) := by
      rw [e1]
      exact zip_back li fun i v m hi hm => (row i v m hi hm).2
    have so : ((out.map fun v => (backV v, fstOf s.heap v)).map (·.2)).Pairwise Th.leS := by
      rw [List.map_map, List.pairwise_map]
      exact h1.imp fun {x y} z => of_decide_eq_false z
    have em : (out.map fun v => (backV v, fstOf s.heap v)).map (·.1) = out.map backV := by rw [List.map_map]; rfl
    have Q1 := q _ d (by rw [zb]; exact pm.map _) so (I.hok.fresh hd)
    rw [em] at Q1
    refine ⟨.ref d, upd H d (.lst (out.map backV)), I.laid (t' := s.toks) kp hd ⟨?_, out, n, vals_back h3, hn⟩, rfl, Q1⟩
    rw [List.length_map, pm.length_eq, ← li, lm]
    exact hz
end L2
namespace Th
open PySem PySem.Spec PyProof.Rows L2
def topS (i : Nat) : Stmt := PySem.Challenge.pw_threeorders_k07_tables_refused.main.body.getD i (.Pass ⟨0, 0, 0, 0⟩)
end Th
namespace Th
open PySem PySem.Spec PyProof.Rows L2
abbrev s_l_start : Stmt := topS 29
theorem sc_l_start : FnScope ["_law_script", "_law_own", "_law_mixed", "_law_cell"] ["_law_script", "_law_own"] (defScope s_l_start) := ⟨rfl, rfl, rfl, by decide +kernel, rfl, by decide +kernel, by decide +kernel⟩
/-- the list that draws is made -/
def spStart (K : PySem.W.Frag) : Sp := fun vs H Q _ => ∃ (a : Addr) (ns : List Int) (own : Int), vs = [.ref a, .int own] ∧ SqL K H a (ns.map V.int) ∧ ns.length ≤ 63 ∧ 0 ≤ own ∧ own < 2147483563 ∧
  ∀ H' (D : DS), Same H H' → H D.p = none → H D.l = none → Drw D H' → Q (.ref D.p) H'
section
variable {P : Program} {w : World} {K : PySem.W.Frag} {mg : Str → Option Value} {base : Heap} {CB CT : Addr}
theorem has_l_start (Z : Zs mg) (A : At K mg "_law_start" s_l_start ["_law_script", "_law_own"]) : Has P w K mg base "_law_start" s_l_start 1 ["_law_script", "_law_own"] (spStart K) := by
  obtain ⟨f, fd, F, mg1, bd⟩ := A
  refine ⟨f, fd, ?_, mg1, F.kp, bd, F⟩
  refine F.ok sc_l_start (fun vs H Q E h => ?_) (fun cdv A outer s H vs Q E hr h => ?_)
  · obtain ⟨a, ns, own, rfl, _⟩ := h
    rfl
  · obtain ⟨a, ns, own, rfl, hS, hlen, ho0, ho1, q⟩ := h
    refine ⟨_, (pss_cons (ps_set (i := 2) sc_l_start.nd rfl (Or.inl rfl) (pv 1)) (pss_cons (ps_for PassesOwn.never rfl (pi_list (pe_slice sl_list (pv 0) po_none (po_some pe_int))) (pg_name (i := 3) sc_l_start.nd rfl (Or.inl rfl)) (pss_one (ps_set (i := 2) sc_l_start.nd rfl (Or.inl rfl) (pe_op op_mod (pe_callTy call_int1 (by rfl) Z.int_ (by decide +kernel) (pa_cons (pe_op op_add (pe_op op_add (pe_op op_mul (pv 2) pe_int) (pe_op op_mod (pe_callTy call_int1 (by rfl) Z.int_ (by decide +kernel) (pa_cons (pv 3) pa_nil)) pe_int)) pe_int) pa_nil)) pe_int)))) (pss_one (ps_ret (pe_lst (pa_cons (pe_lc (own := [("_law_cell", 3)]) (g := gName 3) (by rfl) sc_l_start.nd (pi_list (pe_slice sl_list (pv 0) po_none (po_some pe_int))) (blkOk_by (own := [("_law_cell", 3)]) (N := ["_law_script", "_law_own", "_law_mixed", "_law_cell"]) (sc := defScope s_l_start) (by decide +kernel)) (fun _ _ _ _ _ => pg_name (i := 3) sc_l_start.nd rfl (Or.inl rfl)) (fun _ _ _ _ _ => pts_nil) (fun _ _ _ _ _ => (pe_callTy call_int1 (by rfl) Z.int_ (by decide +kernel) (pa_cons (pv 3) pa_nil)))) (pa_cons pe_int (pa_cons pe_int (pa_cons (pv 2) (pa_cons pe_int pa_nil)))))))))), ?_⟩
    have hl : (ns.map V.int).length ≤ 63 := by rw [List.length_map]; exact hlen
    -- the first number, then a turn for each cell
    refine ⟨_, rfl, _, rfl, 63, rfl, a, ns.map V.int, rfl, hS, fun c nc => ?_⟩
    rw [cut_none _ hl]
    have s1 : Same H (upd H c (.lst (ns.map V.int))) := same_new nc
    refine ⟨c, rfl, ⟨ns.map V.int, .inl (.inl upd_same)⟩, for_list (K := K) (a := c) (xs := ns.map V.int) (fun i σ H2 => ∃ (m : Int) (y : Option V), σ = [some (.ref a), some (.int own), some (.int m), y] ∧ Same H H2 ∧ H2 c = some (.lst (ns.map V.int)) ∧ 0 ≤ m ∧ m < 2147483563)
      ⟨own, none, rfl, s1, upd_same, ho0, ho1⟩ (fun i σ H2 _ ⟨_, _, _, _, e, _⟩ => .inl (.inl e)) ?_ ?_⟩
    · rintro i y σ H2 hi ⟨m, y', rfl, s2, e2, m0, m1⟩
      obtain ⟨z, _, rfl⟩ := getmap hi
      refine ⟨_, rfl, _, _, rfl, rfl, .inl ⟨by omega, by omega⟩, _, rfl, .inl ⟨_, rfl, _, _, rfl, rfl, (by show (0 : Int) < 2147483549; decide), _, _, rfl, rfl, _, _, rfl, rfl, .inl ⟨_, rfl, _, _, rfl, rfl, (by show (0 : Int) < 2147483563; decide), ?_⟩⟩⟩
      exact ⟨_, _, rfl, s2, e2, Int.emod_nonneg _ (by decide), Int.emod_lt_of_pos _ (by decide)⟩
    · rintro σ H2 ⟨m, y', rfl, s2, e2, m0, m1⟩
      -- the list's copy, and the list that draws
      refine ⟨_, rfl, 63, rfl, a, ns.map V.int, rfl, s2.seq hS, fun c2 nc2 => ?_⟩
      rw [cut_none _ hl]
      have s3 : Same H (upd H2 c2 (.lst (ns.map V.int))) := s2.trans (same_new nc2)
      refine ⟨c2, rfl, ⟨_, .inl (.inl upd_same)⟩, fun l nl => ?_⟩
      have ncl : c2 ≠ l := fun e => by rw [← e, upd_same] at nl; cases nl
      refine lc_list (K := K) (a := c2) (xs := ns.map V.int) (fun i H3 => Same H H3 ∧ H3 c2 = some (.lst (ns.map V.int)) ∧ H3 l = some (.lst ((ns.take i).map V.int)))
        ⟨s3.trans (same_new nl), by rw [upd_ne ncl]; exact upd_same, upd_same⟩ (fun i H3 _ ⟨_, e, _⟩ => .inl (.inl e)) ?_ ?_
      · rintro i y H3 hi ⟨s4, e4, e5⟩
        obtain ⟨z, hz, rfl⟩ := getmap hi
        have hz' := lt_of_get hz
        refine ⟨rfl, _, rfl, .inl ⟨_, rfl, _, e5, slineL (by rw [List.length_map, List.length_take]; omega), ?_⟩⟩
        refine ⟨same_mut s4 (s3.free nl), by rw [upd_ne ncl]; exact e4, ?_⟩
        rw [upd_same, take_succ_map hz]
      · rintro H3 ⟨s4, e4, e5⟩
        rw [List.length_map, List.take_length] at e5
        refine ⟨_, rfl, (by show 5 ≤ sizeLine; decide), fun p np => ?_⟩
        refine q _ ⟨p, l, ns⟩ (s4.trans (same_new np)) (s4.free np) (s3.free nl) ⟨ne_of_none e5 np, ?_, hlen, 0, 0, m, 0, upd_same, by decide, by decide, m0, by omega, by decide⟩
        rw [upd_ne (ne_of_none e5 np)]
        exact e5
end
end Th
namespace Th
open PySem PySem.Spec PyProof.Rows L2
abbrev s_l_draw : Stmt := topS 30
theorem sc_l_draw : FnScope ["_law_state", "_law_many", "_law_cell", "_law_digit", "_law_base"] ["_law_state", "_law_many"] (defScope s_l_draw) := ⟨rfl, rfl, rfl, by decide +kernel, rfl, by decide +kernel, by decide +kernel⟩
/-- a number below n is drawn -/
def spDraw : Sp := fun vs H Q _ => ∃ (D : DS) (n : Int), vs = [.ref D.p, .int n] ∧ Drw D H ∧ 0 < n ∧ n < 1073741824 ∧ ∀ (r : Int) H', 0 ≤ r → r < n → Go D H H' → Q (.int r) H'
/-- the list that draws holds other numbers -/
theorem Go.put {D : DS} {H : Hp} (ne : D.l ≠ D.p) (sc : H D.l = some (.lst (D.ns.map V.int))) (few : D.ns.length ≤ 63) {xs : List V} (st : H D.p = some (.lst xs)) {H' : Hp} {i v m c : Int} (e : H' = upd H D.p (.lst [.ref D.l, .int i, .int v, .int m, .int c]))
    (hi : 0 ≤ i) (hv : 0 ≤ v) (m0 : 0 ≤ m) (m1 : m < 2147483648) (hc : 0 ≤ c) : Go D H H' := by
  subst e
  refine ⟨fun a o h => ?_, ne, ?_, few, i, v, m, c, upd_same, hi, hv, m0, m1, hc⟩
  · obtain ⟨z, h⟩ := hid_some h
    rw [hid_ne z, upd_ne z]
    exact h
  · rw [upd_ne ne]
    exact sc
section
variable {P : Program} {w : World} {K : PySem.W.Frag} {mg : Str → Option Value} {base : Heap} {CB CT : Addr}
theorem has_l_draw (Z : Zs mg) (A : At K mg "_law_draw" s_l_draw ["_law_state", "_law_many"]) : Has P w K mg base "_law_draw" s_l_draw 1 ["_law_state", "_law_many"] (spDraw) := by
  obtain ⟨f, fd, F, mg1, bd⟩ := A
  refine ⟨f, fd, ?_, mg1, F.kp, bd, F⟩
  refine F.ok sc_l_draw (fun vs H Q E h => ?_) (fun cdv A outer s H vs Q E hr h => ?_)
  · obtain ⟨D, n, rfl, _⟩ := h
    rfl
  · obtain ⟨D, n, rfl, d, n0, n1, q⟩ := h
    obtain ⟨ne, sc, few, i, v, m, c, st, hi, hv, m0, m1, hc⟩ := id d
    refine ⟨_, (C8.pss_cut (ps_if (PW.pt (pw_and (pt_cmpR op_eq (pe_ix ix_list (pv 0) pe_int (fun _ _ => rfl)) pe_int (nomark _)) (pw_and1 (pt_cmpR op_lt (pe_ix ix_list (pv 0) pe_int (fun _ _ => rfl)) (pe_callB call_len_seq (by rfl) Z.len_ (by decide +kernel) (pa_cons (pe_ix ix_list (pv 0) pe_int (fun _ _ => rfl)) pa_nil)) (nomark _))))) (pss_cons (ps_set (i := 2) sc_l_draw.nd rfl (Or.inl rfl) (pe_ix ix_list (pe_ix ix_list (pv 0) pe_int (fun _ _ => rfl)) (pe_ix ix_list (pv 0) pe_int (fun _ _ => rfl)) (fun _ _ => rfl))) (pss_cons (ps_asg (pe_op op_add (pe_ix ix_list (pv 0) pe_int (fun _ _ => rfl)) pe_int) (pg_sub (pv 0) pe_int set_list)) (pss_one (ps_if (pt_cmpR op_ge (pe_callB call_abs (by rfl) Z.abs_ (by decide +kernel) (pa_cons (pv 2) pa_nil)) (pe_op op_pow pe_int pe_int) (nomark _)) (pss_one (ps_asg (pe_callB call_abs (by rfl) Z.abs_ (by decide +kernel) (pa_cons (pv 2) pa_nil)) (pg_sub (pv 0) pe_int set_list))) pss_nil)))) pss_nil) (pss_cons (ps_if (pt_cmpR op_gt (pe_ix ix_list (pv 0) pe_int (fun _ _ => rfl)) pe_int (nomark _)) (pss_cons (ps_set (i := 3) sc_l_draw.nd rfl (Or.inl rfl) (pe_op op_mod (pe_callTy call_int1 (by rfl) Z.int_ (by decide +kernel) (pa_cons (pe_ix ix_list (pv 0) pe_int (fun _ _ => rfl)) pa_nil)) (pv 1))) (pss_cons (ps_asg (pe_op op_fdiv (pe_callTy call_int1 (by rfl) Z.int_ (by decide +kernel) (pa_cons (pe_ix ix_list (pv 0) pe_int (fun _ _ => rfl)) pa_nil)) (pv 1)) (pg_sub (pv 0) pe_int set_list)) (pss_one (ps_ret (pv 3))))) pss_nil) (pss_cons (ps_asg (pe_op op_add (pe_ix ix_list (pv 0) pe_int (fun _ _ => rfl)) pe_int) (pg_sub (pv 0) pe_int set_list)) (pss_cons (ps_set (i := 4) sc_l_draw.nd rfl (Or.inl rfl) (pe_op op_mod (pe_callTy call_int1 (by rfl) Z.int_ (by decide +kernel) (pa_cons (pe_op op_add (pe_ix ix_list (pv 0) pe_int (fun _ _ => rfl)) (pe_op op_mul (pe_ix ix_list (pv 0) pe_int (fun _ _ => rfl)) pe_int)) pa_nil)) pe_int)) (pss_cons (ps_asg (pe_op op_mod (pe_callTy call_int1 (by rfl) Z.int_ (by decide +kernel) (pa_cons (pe_op op_add (pe_op op_add (pe_op op_pow (pv 4) pe_int) (pe_op op_mul pe_int (pv 4))) pe_int) pa_nil)) pe_int) (pg_sub (pv 0) pe_int set_list)) (pss_one (ps_ret (pe_op op_mod (pe_callTy call_int1 (by rfl) Z.int_ (by decide +kernel) (pa_cons (pe_op op_add (pe_op op_fdiv (pe_ix ix_list (pv 0) pe_int (fun _ _ => rfl)) pe_int) (pe_op op_mul (pe_op op_mod (pe_callTy call_int1 (by rfl) Z.int_ (by decide +kernel) (pa_cons (pe_ix ix_list (pv 0) pe_int (fun _ _ => rfl)) pa_nil)) pe_int) pe_int)) pa_nil)) (pv 1))))))))), ?_⟩
    have ix0 : ∀ i v m c : Int, atI [V.ref D.l, .int i, .int v, .int m, .int c] 0 = some (.ref D.l) := fun _ _ _ _ => rfl
    have ix1 : ∀ i v m c : Int, atI [V.ref D.l, .int i, .int v, .int m, .int c] 1 = some (.int i) := fun _ _ _ _ => rfl
    have ix2 : ∀ i v m c : Int, atI [V.ref D.l, .int i, .int v, .int m, .int c] 2 = some (.int v) := fun _ _ _ _ => rfl
    have ix3 : ∀ i v m c : Int, atI [V.ref D.l, .int i, .int v, .int m, .int c] 3 = some (.int m) := fun _ _ _ _ => rfl
    have ix4 : ∀ i v m c : Int, atI [V.ref D.l, .int i, .int v, .int m, .int c] 4 = some (.int c) := fun _ _ _ _ => rfl
    refine ⟨fun σ H1 => ∃ (i v : Int) (y : Option V), σ = [some (.ref D.p), some (.int n), y, none, none] ∧ H1 D.p = some (.lst [.ref D.l, .int i, .int v, .int m, .int c]) ∧ H1 D.l = some (.lst (D.ns.map V.int)) ∧ Go D H H1 ∧ 0 ≤ i ∧ 0 ≤ v, ?_, ?_⟩
    · -- a cell of the script is taken, or not
      have stay : ∃ (i v : Int) (y : Option V), [some (V.ref D.p), some (V.int n), none, none, none] = [some (.ref D.p), some (.int n), y, none, none] ∧ H D.p = some (.lst [.ref D.l, .int i, .int v, .int m, .int c]) ∧ H D.l = some (.lst (D.ns.map V.int)) ∧ Go D H H ∧ 0 ≤ i ∧ 0 ≤ v :=
        ⟨i, v, none, rfl, st, sc, .refl d, hi, hv⟩
      refine ⟨_, rfl, D.p, _, _, _, rfl, rfl, .inl (.inl st), ix2 _ _ _ _, rfl, _, rfl, ?_⟩
      refine ite2 (fun hv0 => ?_) (fun hv0 => iteF stay)
      refine ⟨_, rfl, D.p, _, _, _, rfl, rfl, .inl (.inl st), ix1 _ _ _ _, _, rfl, D.p, _, _, _, rfl, rfl, .inl (.inl st), ix0 _ _ _ _, D.l, _, rfl, .inl (.inl (.inl sc)), _, _, rfl, rfl, _, rfl, ?_⟩
      refine ite2 (fun hi1 => ?_) (fun hi1 => stay)
      have hi2 : i < D.ns.length := by
        have := of_decide_eq_true hi1
        rw [List.length_map] at this
        exact this
      obtain ⟨z, hz⟩ : ∃ z, D.ns[i.toNat]? = some z := ⟨_, List.getElem?_eq_getElem (by omega)⟩
      -- cell = state[0][state[1]]
      refine ⟨_, rfl, D.p, _, _, _, rfl, rfl, .inl (.inl st), ix0 _ _ _ _, _, rfl, D.p, _, _, _, rfl, rfl, .inl (.inl st), ix1 _ _ _ _, D.l, _, _, _, rfl, rfl, .inl (.inl sc), atI_of hi (by rw [List.getElem?_map, hz]; rfl), ?_⟩
      -- state[1] = state[1] + 1
      refine ⟨_, rfl, D.p, _, _, _, rfl, rfl, .inl (.inl st), ix1 _ _ _ _, _, _, rfl, rfl, _, rfl, D.p, _, _, 1, rfl, rfl, st, rfl, ?_⟩
      have g1 : Go D H (upd H D.p (.lst [V.ref D.l, .int (i + 1), .int v, .int m, .int c])) := Go.put ne sc few st rfl (by omega) hv m0 m1 hc
      have e1 : (upd H D.p (.lst [V.ref D.l, .int (i + 1), .int v, .int m, .int c])) D.l = some (.lst (D.ns.map V.int)) := by rw [upd_ne ne]; exact sc
      -- if abs(cell) is great
      refine ⟨_, rfl, _, rfl, _, _, rfl, rfl, ⟨by decide, by decide, by decide⟩, _, _, rfl, rfl, _, rfl, ?_⟩
      refine ite2 (fun hb => ?_) (fun hb => ?_)
      · refine ⟨_, rfl, _, rfl, _, rfl, D.p, _, _, 2, rfl, rfl, upd_same, rfl, ?_⟩
        rw [upd_upd]
        have hz0 : 0 ≤ (if z < 0 then -z else z) := by split <;> omega
        exact ⟨i + 1, _, _, rfl, upd_same, by rw [upd_ne ne]; exact sc, Go.put ne sc few st rfl (by omega) hz0 m0 m1 hc, by omega, hz0⟩
      · exact ⟨i + 1, v, _, rfl, upd_same, e1, g1, by omega, hv⟩
    · -- a digit of the great number, or a fresh one
      rintro σ H1 ⟨i, v, y, rfl, st, sc, g, hi, hv⟩
      refine ⟨_, rfl, D.p, _, _, _, rfl, rfl, .inl (.inl st), ix2 _ _ _ _, _, _, rfl, rfl, _, rfl, ?_⟩
      refine ite2 (fun hv0 => ?_) (fun hv0 => ?_)
      · refine ⟨_, rfl, D.p, _, _, _, rfl, rfl, .inl (.inl st), ix2 _ _ _ _, .inl ⟨_, rfl, _, rfl, _, _, rfl, rfl, n0, ?_⟩⟩
        refine ⟨_, rfl, D.p, _, _, _, rfl, rfl, .inl (.inl st), ix2 _ _ _ _, .inl ⟨_, rfl, _, rfl, _, _, rfl, rfl, ⟨n0, n1⟩, _, rfl, D.p, _, _, 2, rfl, rfl, st, rfl, ?_⟩⟩
        refine ⟨_, rfl, ?_⟩
        exact q _ _ (Int.emod_nonneg _ (by omega)) (Int.emod_lt_of_pos _ n0) (g.trans (Go.put ne sc few st rfl hi (Int.ediv_nonneg hv (by omega)) m0 m1 hc))
      · -- state[4] = state[4] + 1
        refine ⟨_, rfl, D.p, _, _, _, rfl, rfl, .inl (.inl st), ix4 _ _ _ _, _, _, rfl, rfl, _, rfl, D.p, _, _, 4, rfl, rfl, st, rfl, ?_⟩
        have st2 : (upd H1 D.p (.lst [V.ref D.l, .int i, .int v, .int m, .int (c + 1)])) D.p = some (.lst [V.ref D.l, .int i, .int v, .int m, .int (c + 1)]) := upd_same
        refine ⟨_, rfl, D.p, _, _, _, rfl, rfl, .inl (.inl st2), ix3 _ _ _ _, _, rfl, D.p, _, _, _, rfl, rfl, .inl (.inl st2), ix4 _ _ _ _, _, _, rfl, rfl, .inr ⟨by decide, by decide⟩, _, _, rfl, rfl, .inl ⟨_, rfl, _, _, rfl, rfl, (by show (0 : Int) < 2147483563; decide), ?_⟩⟩
        refine ⟨_, rfl, _, _, rfl, rfl, ⟨by decide, by decide, by omega⟩, _, rfl, _, _, rfl, rfl, .inl ⟨by decide, by decide⟩, _, _, rfl, rfl, _, _, rfl, rfl, .inl ⟨_, rfl, _, _, rfl, rfl, (by show (0 : Int) < 2147483563; decide), _, rfl, D.p, _, _, 3, rfl, rfl, st2, rfl, ?_⟩⟩
        rw [upd_upd]
        have st3 : ∀ r : Int, (upd H1 D.p (.lst [V.ref D.l, .int i, .int v, .int r, .int (c + 1)])) D.p = some (.lst [V.ref D.l, .int i, .int v, .int r, .int (c + 1)]) := fun r => upd_same
        refine ⟨_, rfl, D.p, _, _, _, rfl, rfl, .inl (.inl (st3 _)), ix3 _ _ _ _, _, _, rfl, rfl, ⟨by decide, by decide⟩, _, rfl, D.p, _, _, _, rfl, rfl, .inl (.inl (st3 _)), ix3 _ _ _ _, .inl ⟨_, rfl, _, _, rfl, rfl, (by show (0 : Int) < 6047; decide), _, _, rfl, rfl, .inr ⟨by decide, by decide⟩, _, _, rfl, rfl, .inl ⟨_, rfl, _, rfl, _, _, rfl, rfl, n0, ?_⟩⟩⟩
        exact q _ _ (Int.emod_nonneg _ (by omega)) (Int.emod_lt_of_pos _ n0) (g.trans (Go.put ne sc few st rfl hi hv (Int.emod_nonneg _ (by decide)) (Int.lt_trans (Int.emod_lt_of_pos (b := 2147483563) _ (by decide)) (by decide)) (by omega)))
end
end Th
namespace Th
open PySem PySem.Spec PyProof.Rows L2
abbrev s_l_pick : Stmt := topS 31
theorem sc_l_pick : FnScope ["_law_state", "_law_pool"] ["_law_state", "_law_pool"] (defScope s_l_pick) := ⟨rfl, rfl, rfl, by decide +kernel, rfl, by decide +kernel, by decide +kernel⟩
/-- one of the things of a list -/
def spPick (K : PySem.W.Frag) : Sp := fun vs H Q _ => ∃ (D : DS) (q : Addr) (xs : List V), vs = [.ref D.p, .ref q] ∧ Drw D H ∧ SqL K (hid D.p H) q xs ∧ 0 < xs.length ∧ xs.length ≤ 1000 ∧ ∀ (i : Nat) (v : V) H', xs[i]? = some v → Go D H H' → Q v H'
section
variable {P : Program} {w : World} {K : PySem.W.Frag} {mg : Str → Option Value} {base : Heap} {CB CT : Addr}
theorem has_l_pick (Z : Zs mg) (A : At K mg "_law_pick" s_l_pick ["_law_state", "_law_pool"]) (h_l_draw : Has P w K mg base "_law_draw" s_l_draw 1 ["_law_state", "_law_many"] (spDraw)) : Has P w K mg base "_law_pick" s_l_pick 2 ["_law_state", "_law_pool"] (spPick K) := by
  obtain ⟨f, fd, F, mg1, bd⟩ := A
  obtain ⟨f_l_draw, fd_l_draw, G_l_draw, m_l_draw, k_l_draw, b_l_draw, F_l_draw⟩ := h_l_draw
  refine ⟨f, fd, ?_, mg1, F.kp, bd, F⟩
  refine F.ok sc_l_pick (fun vs H Q E h => ?_) (fun cdv A outer s H vs Q E hr h => ?_)
  · obtain ⟨D, p, xs, rfl, _⟩ := h
    rfl
  · obtain ⟨D, p, xs, rfl, d, hS, h0, h1, q⟩ := h
    refine ⟨_, (pss_one (ps_ret (pe_ix ix_list (pv 1) (pe_call G_l_draw (hr.mono (by decide)) (by rfl) m_l_draw k_l_draw b_l_draw .nil pass0 (pa_cons (pv 0) (pa_cons (pe_callB call_len_seq (by rfl) Z.len_ (by decide +kernel) (pa_cons (pv 1) pa_nil)) pa_nil))) (fun _ _ => rfl)))), ?_⟩
    have hA : SqL K H p xs := hid_same.seq hS
    refine ⟨_, rfl, _, rfl, _, rfl, p, xs, rfl, .inl hA, D, _, rfl, d, by omega, by omega, fun r H' r0 r1 g => ?_⟩
    obtain ⟨v, hv⟩ : ∃ v, xs[r.toNat]? = some v := ⟨_, List.getElem?_eq_getElem (by omega)⟩
    exact ⟨p, xs, r, v, rfl, rfl, hid_same.seq (g.sm.seq hS), atI_of r0 hv, q _ v H' hv g⟩
end
end Th
namespace Th
open PySem PySem.Spec PyProof.Rows L2
abbrev s_l_letters : Stmt := topS 33
theorem sc_l_letters : FnScope [] [] (defScope s_l_letters) := ⟨rfl, rfl, rfl, by decide +kernel, rfl, by decide +kernel, by decide +kernel⟩
def spLetters : Sp := fun vs H Q _ => vs = [] ∧ Q (.str abc) H
section
variable {P : Program} {w : World} {K : PySem.W.Frag} {mg : Str → Option Value} {base : Heap} {CB CT : Addr}
theorem has_l_letters (Z : Zs mg) (A : At K mg "_law_letters" s_l_letters []) : Has P w K mg base "_law_letters" s_l_letters 1 [] (spLetters) := by
  obtain ⟨f, fd, F, mg1, bd⟩ := A
  refine ⟨f, fd, ?_, mg1, F.kp, bd, F⟩
  refine F.ok sc_l_letters (fun vs H Q E h => ?_) (fun cdv A outer s H vs Q E hr h => ?_)
  · obtain ⟨rfl, _⟩ := h
    rfl
  · obtain ⟨rfl, q⟩ := h
    exact ⟨_, (pss_one (ps_ret pe_str)), q⟩
end
end Th
namespace Th
open PySem PySem.Spec PyProof.Rows L2
abbrev s_l_word : Stmt := topS 34
theorem sc_l_word : FnScope ["_law_state", "_law_longest", "_law_k"] ["_law_state", "_law_longest"] (defScope s_l_word) := ⟨rfl, rfl, rfl, by decide +kernel, rfl, by decide +kernel, by decide +kernel⟩
/-- a text of 1 to n small letters -/
def spWord (K : PySem.W.Frag) : Sp := fun vs H Q _ => ∃ (D : DS) (n : Int), vs = [.ref D.p, .int n] ∧ Drw D H ∧ 0 < n ∧ n ≤ 1000 ∧ ∀ (x : Str) H', Lw x → 1 ≤ x.length → (x.length : Int) ≤ n → Go D H H' → Q (.str x) H'
theorem word_len : ∀ l : List Nat, ((l.map fun k => (⟨#[let_ k]⟩ : Str)).map cs).flatten = l.map let_
  | [] => rfl
  | k :: r => by
    rw [List.map_cons, List.map_cons, List.flatten_cons, word_len r]
    rfl
theorem word_sum : ∀ l : List Nat, ((l.map fun k => (⟨#[let_ k]⟩ : Str)).map (·.length)).sum = l.length
  | [] => rfl
  | k :: r => by
    rw [List.map_cons, List.map_cons, List.sum_cons, word_sum r, List.length_cons]
    show 1 + r.length = r.length + 1
    omega
section
variable {P : Program} {w : World} {K : PySem.W.Frag} {mg : Str → Option Value} {base : Heap} {CB CT : Addr}
theorem has_l_word (Z : Zs mg) (A : At K mg "_law_word" s_l_word ["_law_state", "_law_longest"]) (h_l_draw : Has P w K mg base "_law_draw" s_l_draw 1 ["_law_state", "_law_many"] (spDraw)) (h_l_letters : Has P w K mg base "_law_letters" s_l_letters 1 [] (spLetters)) : Has P w K mg base "_law_word" s_l_word 2 ["_law_state", "_law_longest"] (spWord K) := by
  obtain ⟨f, fd, F, mg1, bd⟩ := A
  obtain ⟨f_l_draw, fd_l_draw, G_l_draw, m_l_draw, k_l_draw, b_l_draw, F_l_draw⟩ := h_l_draw
  obtain ⟨f_l_letters, fd_l_letters, G_l_letters, m_l_letters, k_l_letters, b_l_letters, F_l_letters⟩ := h_l_letters
  refine ⟨f, fd, ?_, mg1, F.kp, bd, F⟩
  refine F.ok sc_l_word (fun vs H Q E h => ?_) (fun cdv A outer s H vs Q E hr h => ?_)
  · obtain ⟨D, n, rfl, _⟩ := h
    rfl
  · obtain ⟨D, n, rfl, d, n0, n1, q⟩ := h
    refine ⟨_, (pss_one (ps_ret (pe_join pe_str (pe_lc (own := [("_law_k", 2)]) (g := gName 2) (by rfl) sc_l_word.nd (pi_range1 (by rfl) Z.range_ (pa_cons (pe_op op_add pe_int (pe_call G_l_draw (hr.mono (by decide)) (by rfl) m_l_draw k_l_draw b_l_draw .nil pass0 (pa_cons (pv 0) (pa_cons (pv 1) pa_nil)))) pa_nil)) (blkOk_by (own := [("_law_k", 2)]) (N := ["_law_state", "_law_longest", "_law_k"]) (sc := defScope s_l_word) (by decide +kernel)) (fun _ _ _ _ _ => pg_name (i := 2) sc_l_word.nd rfl (Or.inl rfl)) (fun _ _ _ _ _ => pts_nil) (fun _ _ _ _ _ => (pe_ix ix_str (pe_call0 G_l_letters (hr.mono (by decide)) (by rfl) m_l_letters k_l_letters b_l_letters .nil pass0) (pe_call G_l_draw (hr.mono (by decide)) (by rfl) m_l_draw k_l_draw b_l_draw .nil pass0 (pa_cons (pv 0) (pa_cons pe_int pa_nil))) (fun _ _ => rfl))))))), ?_⟩
    refine ⟨⟨_, rfl⟩, _, rfl, _, rfl, D, n, rfl, d, n0, by omega, fun r H1 r0 r1 g => ⟨_, _, rfl, rfl, _, rfl, by omega, by omega, fun L nL => ?_⟩⟩
    have nLp := g.st.ne_new nL
    refine lc_range (lo := 0) (n := (1 + r).toNat) (fun i H2 => ∃ l : List Nat, l.length = i ∧ (∀ k ∈ l, k < 26) ∧ Go D H H2 ∧ H2 L = some (.lst ((l.map fun k => (⟨#[let_ k]⟩ : Str)).map V.str)))
      ⟨[], rfl, (fun _ z => nomatch z), g.new nL, upd_same⟩ ?_ ?_
    · rintro i H2 hi ⟨l, hl, hk, g2, e2⟩
      refine ⟨rfl, rfl, _, rfl, D, 26, rfl, g2.st, by decide, by decide, fun k H3 k0 k1 g3 => ⟨abc, k, let_ k.toNat, rfl, rfl, sline_abc, atI_let k0 k1, _, g3.old nLp e2, slineL (by rw [List.length_map, List.length_map]; omega), ?_⟩⟩
      refine ⟨l ++ [k.toNat], by rw [List.length_append, hl]; rfl, fun z hz => ?_, (g2.trans g3).mut d (g.free d nL), ?_⟩
      · rcases List.mem_append.mp hz with hz | hz
        · exact hk z hz
        · rw [List.mem_singleton.mp hz]; omega
      · rw [upd_same, List.map_append, List.map_append]
        rfl
    · rintro H2 ⟨l, hl, hk, g2, e2⟩
      refine ⟨_, L, _, rfl, rfl, .inl (.inl (.inl e2)), ?_, ?_⟩
      · rw [word_sum, List.length_map, show (Str.ofString "").length = 0 from rfl]
        omega
      · have ec : cs (Txt.join (Str.ofString "") (l.map fun k => (⟨#[let_ k]⟩ : Str))) = l.map let_ := by
          unfold Txt.join
          rw [PySem.StrLaws.glued_eq_join]
          exact (cs_join _).trans (word_len l)
        refine q _ _ (fun c hc => ?_) ?_ ?_ g2
        · rw [ec] at hc
          obtain ⟨k, hk1, rfl⟩ := List.mem_map.mp hc
          exact let_mem (hk k hk1)
        · rw [cs_len, ec, List.length_map]; omega
        · rw [cs_len, ec, List.length_map]; omega
end
end Th
namespace Th
open PySem PySem.Spec PyProof.Rows L2
abbrev s_l_shuffle : Stmt := topS 32
theorem sc_l_shuffle : FnScope ["_law_state", "_law_pool", "_law_some", "_law_x"] ["_law_state", "_law_pool"] (defScope s_l_shuffle) := ⟨rfl, rfl, rfl, by decide +kernel, rfl, by decide +kernel, by decide +kernel⟩
/-- the things of a list in any order, in a new list -/
def spShuffle (K : PySem.W.Frag) : Sp := fun vs H Q _ => ∃ (D : DS) (q : Addr) (xs : List V), vs = [.ref D.p, .ref q] ∧ Drw D H ∧ SqL K (hid D.p H) q xs ∧ xs.length ≤ 1000 ∧
  ∀ (r : Addr) (ys : List V) H', ys.Perm xs → H r = none → H' r = some (.lst ys) → Go D H H' → Q (.ref r) H'
theorem ins_perm (ys : List V) (i : Nat) (v : V) : (ys.take i ++ [v] ++ ys.drop i).Perm (ys ++ [v]) := by
  have a : (ys.take i ++ [v] ++ ys.drop i).Perm (v :: (ys.take i ++ ys.drop i)) := by
    rw [List.append_assoc]
    exact List.perm_middle
  rw [List.take_append_drop] at a
  exact a.trans (List.perm_append_singleton _ _).symm
section
variable {P : Program} {w : World} {K : PySem.W.Frag} {mg : Str → Option Value} {base : Heap} {CB CT : Addr}
theorem has_l_shuffle (Z : Zs mg) (A : At K mg "_law_shuffle" s_l_shuffle ["_law_state", "_law_pool"]) (h_l_draw : Has P w K mg base "_law_draw" s_l_draw 1 ["_law_state", "_law_many"] (spDraw)) : Has P w K mg base "_law_shuffle" s_l_shuffle 2 ["_law_state", "_law_pool"] (spShuffle K) := by
  obtain ⟨f, fd, F, mg1, bd⟩ := A
  obtain ⟨f_l_draw, fd_l_draw, G_l_draw, m_l_draw, k_l_draw, b_l_draw, F_l_draw⟩ := h_l_draw
  refine ⟨f, fd, ?_, mg1, F.kp, bd, F⟩
  refine F.ok sc_l_shuffle (fun vs H Q E h => ?_) (fun cdv A outer s H vs Q E hr h => ?_)
  · obtain ⟨D, p, xs, rfl, _⟩ := h
    rfl
  · obtain ⟨D, p, xs, rfl, d, hS, h1, q⟩ := h
    refine ⟨_, (pss_cons (ps_set (i := 2) sc_l_shuffle.nd rfl (Or.inl rfl) (pe_lst pa_nil)) (pss_cons (ps_for PassesOwn.never rfl (pi_list (pv 1)) (pg_name (i := 3) sc_l_shuffle.nd rfl (Or.inl rfl)) (pss_one (ps_expr (pe_bm PySem.F.plainAttrs_list PySem.F.slot_list_insert PySem.F.type_list_insert mt_insert (pv 2) (pa_cons (pe_call G_l_draw (hr.mono (by decide)) (by rfl) m_l_draw k_l_draw b_l_draw .nil pass0 (pa_cons (pv 0) (pa_cons (pe_op op_add (pe_callB call_len_seq (by rfl) Z.len_ (by decide +kernel) (pa_cons (pv 2) pa_nil)) pe_int) pa_nil))) (pa_cons (pv 3) pa_nil)))))) (pss_one (ps_ret (pv 2))))), ?_⟩
    refine ⟨Nat.zero_le _, fun r nr => ?_⟩
    have nrp := d.ne_new nr
    refine ⟨_, rfl, p, rfl, ⟨xs, (same_new nr).seq (hid_same.seq hS)⟩, for_list (K := K) (a := p) (xs := xs) (fun i σ H2 => ∃ (y : Option V) (ys : List V), σ = [some (.ref D.p), some (.ref p), some (.ref r), y] ∧ Go D H H2 ∧ H2 r = some (.lst ys) ∧ ys.Perm (xs.take i))
      ⟨none, [], rfl, (Go.refl d).new nr, upd_same, List.Perm.nil⟩ (fun i σ H2 _ ⟨_, _, _, g, _⟩ => hid_same.seq (g.sm.seq hS)) ?_ ?_⟩
    · rintro i v σ H2 hi ⟨y, ys, rfl, g, er, pm⟩
      have hil := lt_of_get hi
      have hlen : ys.length = i := by rw [pm.length_eq, List.length_take]; omega
      refine ⟨_, rfl, .inl ⟨rfl, _, .inl (.inl er)⟩, _, rfl, _, rfl, r, ys, rfl, .inl (.inl (.inl er)), _, _, rfl, rfl, D, _, rfl, g.st, by omega, by omega, fun k H3 k0 k1 g3 => ?_⟩
      refine ⟨_, rfl, r, ys, k, v, rfl, rfl, g3.old nrp er, slineL (by omega), k0, by omega, ?_⟩
      refine ⟨_, _, rfl, (g.trans g3).mut d nr, upd_same, (ins_perm ys k.toNat v).trans ?_⟩
      rw [List.take_add_one, hi]
      exact pm.append_right [v]
    · rintro σ H2 ⟨y, ys, rfl, g, er, pm⟩
      rw [List.take_length] at pm
      exact ⟨_, rfl, q r ys H2 pm nr er g⟩
end
end Th
namespace Th
open PySem PySem.Spec PyProof.Rows L2
abbrev s_l_names : Stmt := topS 35
theorem sc_l_names : FnScope ["_law_state", "_law_many", "_law_first", "_law_stride", "_law_letters_here", "_law_k", "_law_signs", "_law_way", "_law_stem", "_law_spot", "_law_sign", "_law_known", "_law_some", "_law_longer", "_law_tag", "_law_spare"] ["_law_state", "_law_many"] (defScope s_l_names) := ⟨rfl, rfl, rfl, by decide +kernel, rfl, by decide +kernel, by decide +kernel⟩
/-- n names, each once, in a new list -/
def spNames (K : PySem.W.Frag) : Sp := fun vs H Q _ => ∃ (D : DS) (n : Int), vs = [.ref D.p, .int n] ∧ Drw D H ∧ 0 ≤ n ∧ n ≤ 40 ∧ ∀ (r : Addr) (xs : List Str) H', Nms xs → (xs.length : Int) = n → H r = none → H' r = some (.lst (xs.map V.str)) → Go D H H' → Q (.ref r) H'
section
variable {P : Program} {w : World} {K : PySem.W.Frag} {mg : Str → Option Value} {base : Heap} {CB CT : Addr}
theorem has_l_names (Z : Zs mg) (A : At K mg "_law_names" s_l_names ["_law_state", "_law_many"]) (h_l_draw : Has P w K mg base "_law_draw" s_l_draw 1 ["_law_state", "_law_many"] (spDraw)) (h_l_pick : Has P w K mg base "_law_pick" s_l_pick 2 ["_law_state", "_law_pool"] (spPick K)) (h_l_letters : Has P w K mg base "_law_letters" s_l_letters 1 [] (spLetters)) (h_l_word : Has P w K mg base "_law_word" s_l_word 2 ["_law_state", "_law_longest"] (spWord K)) (h_l_shuffle : Has P w K mg base "_law_shuffle" s_l_shuffle 2 ["_law_state", "_law_pool"] (spShuffle K)) : Has P w K mg base "_law_names" s_l_names 3 ["_law_state", "_law_many"] (spNames K) := by
  obtain ⟨f, fd, F, mg1, bd⟩ := A
  obtain ⟨f_l_draw, fd_l_draw, G_l_draw, m_l_draw, k_l_draw, b_l_draw, F_l_draw⟩ := h_l_draw
  obtain ⟨f_l_pick, fd_l_pick, G_l_pick, m_l_pick, k_l_pick, b_l_pick, F_l_pick⟩ := h_l_pick
  obtain ⟨f_l_letters, fd_l_letters, G_l_letters, m_l_letters, k_l_letters, b_l_letters, F_l_letters⟩ := h_l_letters
  obtain ⟨f_l_word, fd_l_word, G_l_word, m_l_word, k_l_word, b_l_word, F_l_word⟩ := h_l_word
  obtain ⟨f_l_shuffle, fd_l_shuffle, G_l_shuffle, m_l_shuffle, k_l_shuffle, b_l_shuffle, F_l_shuffle⟩ := h_l_shuffle
  refine ⟨f, fd, ?_, mg1, F.kp, bd, F⟩
  refine F.ok sc_l_names (fun vs H Q E h => ?_) (fun cdv A outer s H vs Q E hr h => ?_)
  · obtain ⟨D, n, rfl, _⟩ := h
    rfl
  · obtain ⟨D, n, rfl, d, n0, n1, q⟩ := h
    refine ⟨_, (pss_cons (ps_asg (pe_tup (pa_cons (pe_call G_l_draw (hr.mono (by decide)) (by rfl) m_l_draw k_l_draw b_l_draw .nil pass0 (pa_cons (pv 0) (pa_cons pe_int pa_nil))) (pa_cons (pe_call G_l_pick (hr.mono (by decide)) (by rfl) m_l_pick k_l_pick b_l_pick .nil pass0 (pa_cons (pv 0) (pa_cons (pe_lst (pa_cons pe_int (pa_cons pe_int (pa_cons pe_int (pa_cons pe_int (pa_cons pe_int (pa_cons pe_int (pa_cons pe_int pa_nil)))))))) pa_nil))) pa_nil))) (pg_tup (by rfl) (pgs_cons (pg_name (i := 2) sc_l_names.nd rfl (Or.inr rfl)) (pgs_cons (pg_name (i := 3) sc_l_names.nd rfl (Or.inr rfl)) pgs_nil)))) (pss_cons (ps_set (i := 4) sc_l_names.nd rfl (Or.inr rfl) (pe_lc (own := [("_law_k", 5)]) (g := gName 5) (by rfl) sc_l_names.nd (pi_range1 (by rfl) Z.range_ (pa_cons (pv 1) pa_nil)) (blkOk_by (own := [("_law_k", 5)]) (N := ["_law_state", "_law_many", "_law_first", "_law_stride", "_law_letters_here", "_law_k", "_law_signs", "_law_way", "_law_stem", "_law_spot", "_law_sign", "_law_known", "_law_some", "_law_longer", "_law_tag", "_law_spare"]) (sc := defScope s_l_names) (by decide +kernel)) (fun _ _ _ _ _ => pg_name (i := 5) sc_l_names.nd rfl (Or.inl rfl)) (fun _ _ _ _ _ => pts_nil) (fun _ _ _ _ _ => (pe_ix ix_str (pe_call0 G_l_letters (hr.mono (by decide)) (by rfl) m_l_letters k_l_letters b_l_letters .nil pass0) (pe_op op_mod (pe_callTy call_int1 (by rfl) Z.int_ (by decide +kernel) (pa_cons (pe_op op_add (pv 2) (pe_op op_mod (pe_op op_mul (pv 3) (pe_callTy call_int1 (by rfl) Z.int_ (by decide +kernel) (pa_cons (pv 5) pa_nil))) pe_int)) pa_nil)) pe_int) (fun _ _ => rfl))))) (pss_cons (ps_setLc (i := 6) (own := [("_law_k", 5)]) (g := gName 5) (by rfl) sc_l_names.nd rfl rfl (sw_true rfl rfl rfl (by decide +kernel)) (pi_range1 (by rfl) Z.range_ (pa_cons (pv 1) pa_nil)) (blkOk_by (own := [("_law_k", 5)]) (N := ["_law_state", "_law_many", "_law_first", "_law_stride", "_law_letters_here", "_law_k", "_law_signs", "_law_way", "_law_stem", "_law_spot", "_law_sign", "_law_known", "_law_some", "_law_longer", "_law_tag", "_law_spare"]) (sc := defScope s_l_names) (by decide +kernel)) (fun _ _ _ _ _ => pg_name (i := 5) sc_l_names.nd rfl (Or.inl rfl)) (fun _ _ _ _ _ => pts_nil) (fun _ _ _ _ _ => (pe_op op_add_str (pe_ix (show IxR _ (rIxL K) from ix_list) (pv 4) (pv 5) (fun _ _ => rfl)) (pe_ifExp (pt_cmpR op_lt (pv 5) pe_int (nomark _)) pe_str (pe_ix ix_str (pe_call0 G_l_letters (hr.mono (by decide)) (by rfl) m_l_letters k_l_letters b_l_letters .nil pass0) (pe_op op_fdiv (pv 5) pe_int) (fun _ _ => rfl)))))) (pss_cons (ps_asg (pe_tup (pa_cons (pe_call G_l_draw (hr.mono (by decide)) (by rfl) m_l_draw k_l_draw b_l_draw .nil pass0 (pa_cons (pv 0) (pa_cons pe_int pa_nil))) (pa_cons (pe_call G_l_word (hr.mono (by decide)) (by rfl) m_l_word k_l_word b_l_word .nil pass0 (pa_cons (pv 0) (pa_cons pe_int pa_nil))) pa_nil))) (pg_tup (by rfl) (pgs_cons (pg_name (i := 7) sc_l_names.nd rfl (Or.inl rfl)) (pgs_cons (pg_name (i := 8) sc_l_names.nd rfl (Or.inr rfl)) pgs_nil)))) (pss_cons (ps_if (pt_cmpR op_eq (pv 7) pe_int (nomark _)) (pss_cons (ps_set (i := 9) sc_l_names.nd rfl (Or.inr rfl) (pe_call G_l_draw (hr.mono (by decide)) (by rfl) m_l_draw k_l_draw b_l_draw .nil pass0 (pa_cons (pv 0) (pa_cons (pe_op op_add (pe_callB call_len_str (by rfl) Z.len_ (by decide +kernel) (pa_cons (pv 8) pa_nil)) pe_int) pa_nil)))) (pss_one (ps_ret (pe_lc (own := [("_law_sign", 10)]) (g := gName 10) (by rfl) sc_l_names.nd (pi_list (pv 6)) (blkOk_by (own := [("_law_sign", 10)]) (N := ["_law_state", "_law_many", "_law_first", "_law_stride", "_law_letters_here", "_law_k", "_law_signs", "_law_way", "_law_stem", "_law_spot", "_law_sign", "_law_known", "_law_some", "_law_longer", "_law_tag", "_law_spare"]) (sc := defScope s_l_names) (by decide +kernel)) (fun _ _ _ _ _ => pg_name (i := 10) sc_l_names.nd rfl (Or.inl rfl)) (fun _ _ _ _ _ => pts_nil) (fun _ _ _ _ _ => (pe_op op_add_str (pe_op op_add_str (pe_slice sl_str (pv 8) po_none (po_some (pv 9))) (pv 10)) (pe_slice sl_str (pv 8) (po_some (pv 9)) po_none))))))) pss_nil) (pss_cons (ps_if (pt_cmpR op_eq (pv 7) pe_int (nomark _)) (pss_cons (ps_set (i := 11) sc_l_names.nd rfl (Or.inl rfl) (pe_lst (pa_cons pe_str (pa_cons pe_str (pa_cons pe_str (pa_cons pe_str (pa_cons pe_str (pa_cons pe_str (pa_cons pe_str (pa_cons pe_str (pa_cons pe_str (pa_cons pe_str (pa_cons pe_str (pa_cons pe_str pa_nil)))))))))))))) (pss_one (ps_ret (pe_call G_l_shuffle (hr.mono (by decide)) (by rfl) m_l_shuffle k_l_shuffle b_l_shuffle .nil pass0 (pa_cons (pv 0) (pa_cons (pe_slice sl_list (pe_op op_cat (pe_call G_l_shuffle (hr.mono (by decide)) (by rfl) m_l_shuffle k_l_shuffle b_l_shuffle .nil pass0 (pa_cons (pv 0) (pa_cons (pv 11) pa_nil))) (pv 6)) po_none (po_some (pv 1))) pa_nil)))))) pss_nil) (pss_cons (ps_set (i := 12) sc_l_names.nd rfl (Or.inr rfl) (pe_lst pa_nil)) (pss_cons (ps_for PassesOwn.never rfl (pi_range1 (by rfl) Z.range_ (pa_cons (pv 1) pa_nil)) (pg_name (i := 5) sc_l_names.nd rfl (Or.inl rfl)) (C8.pss_cut (ps_set (i := 13) sc_l_names.nd rfl (Or.inl rfl) (pe_and (pe_cmpR op_gt (pv 5) pe_int (nomark _)) (pe_one (pe_cmpR op_eq (pe_call G_l_draw (hr.mono (by decide)) (by rfl) m_l_draw k_l_draw b_l_draw .nil pass0 (pa_cons (pv 0) (pa_cons pe_int pa_nil))) pe_int (nomark _))))) (C8.pss_cut (ps_set (i := 14) sc_l_names.nd rfl (Or.inl rfl) (pe_ifExp (pt_val (pv 13)) (pe_slice sl_str (pe_op op_add_str (pe_ix ix_list (pv 12) (pe_call G_l_draw (hr.mono (by decide)) (by rfl) m_l_draw k_l_draw b_l_draw .nil pass0 (pa_cons (pv 0) (pa_cons (pv 5) pa_nil))) (fun _ _ => rfl)) (pe_call G_l_word (hr.mono (by decide)) (by rfl) m_l_word k_l_word b_l_word .nil pass0 (pa_cons (pv 0) (pa_cons pe_int pa_nil)))) po_none (po_some pe_int)) (pe_call G_l_word (hr.mono (by decide)) (by rfl) m_l_word k_l_word b_l_word .nil pass0 (pa_cons (pv 0) (pa_cons pe_int pa_nil))))) (pss_cons (ps_setLc (i := 15) (own := [("_law_sign", 10)]) (g := gName 10) (by rfl) sc_l_names.nd rfl rfl (sw_true rfl rfl rfl (by decide +kernel)) (pi_list (pv 6)) (blkOk_by (own := [("_law_sign", 10)]) (N := ["_law_state", "_law_many", "_law_first", "_law_stride", "_law_letters_here", "_law_k", "_law_signs", "_law_way", "_law_stem", "_law_spot", "_law_sign", "_law_known", "_law_some", "_law_longer", "_law_tag", "_law_spare"]) (sc := defScope s_l_names) (by decide +kernel)) (fun _ _ _ _ _ => pg_name (i := 10) sc_l_names.nd rfl (Or.inl rfl)) (fun _ _ _ _ _ => (pts_one (pt_cmpR (show OpR _ (compareOp .NotIn) (rIn K true) from op_notIn_seq) (pv 10) (pv 12) (by rfl)))) (fun _ _ _ _ _ => (pv 10))) (pss_one (ps_expr (pe_bm PySem.F.plainAttrs_list PySem.F.slot_list_append PySem.F.type_list_append mt_append (pv 12) (pa_cons (pe_ifExp (pt_cmpR op_in_seq (pv 14) (pv 12) (by rfl)) (pe_ix ix_list (pv 15) pe_int (fun _ _ => rfl)) (pv 14)) pa_nil)))))))) (pss_one (ps_ret (pv 12))))))))))), ?_⟩
    refine ⟨_, rfl, D, 26, rfl, d, by decide, by decide, fun a H1 a0 a1 g1 => ⟨_, rfl, (by show 7 ≤ sizeLine; decide), fun u nu => ?_⟩⟩
    have nup := g1.st.ne_new nu
    refine ⟨D, u, _, rfl, g1.st.new nu, sqh nup upd_same, by show 0 < 7; decide, by show 7 ≤ 1000; decide, fun i v H2 hv g2 => ?_⟩
    obtain ⟨b, hb, hb2, rfl⟩ := stride_of hv
    obtain ⟨a, rfl⟩ := Int.eq_ofNat_of_zero_le a0
    have ha : a < 26 := by omega
    refine ⟨(by show 2 ≤ sizeLine; decide), fun t nt => ⟨t, _, rfl, .inl (.inl upd_same), rfl, _, _, rfl, _, _, rfl, rfl, ?_⟩⟩
    have g3 := ((g1.new nu).trans g2).new (o := .tup [.int (a : Int), .int (b : Int)]) nt
    generalize upd H2 t (.tup [.int (a : Int), .int (b : Int)]) = H3 at g3 ⊢
    -- the first letters
    refine ⟨_, rfl, _, rfl, by omega, by omega, fun L nL => ?_⟩
    have nLp := g3.st.ne_new nL
    refine lc_range (lo := 0) (n := n.toNat) (fun i H4 => Go D H H4 ∧ H4 L = some (.lst ((List.range i).map fun k => V.str (sg1 a b k)))) ⟨g3.new nL, upd_same⟩ ?_ ?_
    · rintro i H4 hi ⟨g4, e4⟩
      refine ⟨rfl, rfl, _, rfl, _, rfl, _, rfl, .inl ⟨_, rfl, _, _, rfl, rfl, .inl ⟨by omega, by omega⟩, _, _, rfl, rfl, (by show (0 : Int) < 26; decide), _, _, rfl, rfl, .inl ⟨_, rfl, _, _, rfl, rfl, (by show (0 : Int) < 26; decide), abc, _, let_ ((a + b * i % 26) % 26), rfl, rfl, sline_abc, ?_, _, e4, slineL (by rw [List.length_map, List.length_range]; omega), ?_⟩⟩⟩
      · rw [ixe]
        exact atI_nat (xs := cs abc) (let_at (Nat.mod_lt _ (by decide)))
      · exact ⟨g4.mut d (g3.free d nL), by rw [upd_same, mapr]; rfl⟩
    rintro H4 ⟨g4, eL⟩
    -- the signs
    refine ⟨_, rfl, _, rfl, by omega, by omega, fun S nS => ?_⟩
    have nSp := g4.st.ne_new nS
    have nSL : L ≠ S := ne_of_none eL nS
    refine lc_range (lo := 0) (n := n.toNat) (fun i H5 => Go D H H5 ∧ H5 L = some (.lst ((List.range n.toNat).map fun k => V.str (sg1 a b k))) ∧ H5 S = some (.lst ((List.range i).map fun k => V.str (sgn a b k))))
      ⟨g4.new nS, by rw [upd_ne nSL]; exact eL, upd_same⟩ ?_ ?_
    · rintro i H5 hi ⟨g5, eL5, eS5⟩
      have lS : ((List.range i).map fun k => V.str (sgn a b k)).length < sizeLine := slineL (by rw [List.length_map, List.length_range]; omega)
      refine ⟨rfl, _, rfl, _, rfl, L, _, _, _, rfl, rfl, .inl (.inl eL5), atI_of (by omega) (by rw [show ((0 : Int) + (i : Int)).toNat = i by omega]; exact getr _ hi), _, rfl, _, _, rfl, rfl, _, rfl, ?_⟩
      have fin : ∀ H6, H6 = H5 → ∃ acc, H6 S = some (.lst acc) ∧ acc.length < sizeLine ∧ Go D H (upd H6 S (.lst (acc ++ [V.str (sgn a b i)]))) ∧ (upd H6 S (.lst (acc ++ [V.str (sgn a b i)]))) L = some (.lst ((List.range n.toNat).map fun k => V.str (sg1 a b k))) ∧
          (upd H6 S (.lst (acc ++ [V.str (sgn a b i)]))) S = some (.lst ((List.range (i + 1)).map fun k => V.str (sgn a b k))) := fun H6 e => by
        subst e
        exact ⟨_, eS5, lS, g5.mut d (g4.free d nS), by rw [upd_ne nSL]; exact eL5, by rw [upd_same, mapr]⟩
      refine ite2 (fun hk => ?_) (fun hk => ?_)
      · have hk' : i < 26 := by have := of_decide_eq_true hk; omega
        refine ⟨_, _, rfl, rfl, by show 1 + 0 ≤ sizeLine; decide, ?_⟩
        have e : sg1 a b i ++ (Str.ofString "") = sgn a b i := by
          unfold sgn
          rw [if_pos hk']
          rfl
        rw [e]
        exact fin _ rfl
      · have hk' : ¬ i < 26 := fun z => hk (decide_eq_true (by omega))
        refine ⟨rfl, _, rfl, _, _, rfl, rfl, ⟨by decide, by decide⟩, abc, _, let_ (i / 26), rfl, rfl, sline_abc, ?_, _, _, rfl, rfl, by show 1 + 1 ≤ sizeLine; decide, ?_⟩
        · rw [show ((0 : Int) + (i : Int)) / 26 = ((i / 26 : Nat) : Int) by omega]
          exact atI_nat (xs := cs abc) (let_at (by omega))
        · have e : sg1 a b i ++ (⟨#[let_ (i / 26)]⟩ : Str) = sgn a b i := by
            unfold sgn
            rw [if_neg hk']
            rfl
          rw [e]
          exact fin _ rfl
    rintro H5 ⟨g5, eL5, eS5⟩
    have eS : ((List.range n.toNat).map fun k => V.str (sgn a b k)) = (sgns a b n.toNat).map V.str := by
      unfold sgns
      rw [List.map_map]
      rfl
    rw [eS] at eS5
    clear eS eL5 nSL
    have freeS := g4.free d nS
    clear eL nS g4 nL nLp g3
    -- way, stem
    refine ⟨_, rfl, D, 4, rfl, g5.st, by decide, by decide, fun way H6 w0 w1 g6 => ⟨_, rfl, D, 4, rfl, g6.st, by decide, by decide, fun stem H7 k1 k2 k3 g7 => ?_⟩⟩
    refine ⟨(by show 2 ≤ sizeLine; decide), fun t2 nt2 => ⟨t2, _, rfl, .inl (.inl upd_same), rfl, _, _, rfl, _, _, rfl, rfl, ?_⟩⟩
    have g8 := ((g5.trans g6).trans g7).new (o := .tup [.int way, .str stem]) nt2
    have eS8 : (upd H7 t2 (.tup [.int way, .str stem])) S = some (.lst ((sgns a b n.toNat).map V.str)) := by
      have q1 := g7.old nSp (g6.old nSp eS5)
      rw [upd_ne (ne_of_none q1 nt2)]
      exact q1
    generalize upd H7 t2 (.tup [.int way, .str stem]) = H8 at g8 eS8 ⊢
    have lenS : (sgns a b n.toNat).length = n.toNat := sgns_len a b n.toNat
    have l40 : n.toNat ≤ 40 := by omega
    refine ⟨_, rfl, rfl, _, rfl, ?_⟩
    refine ite2 (fun hw => ?_) (fun hw => ?_)
    · -- a stem around each sign
      refine ⟨_, rfl, _, rfl, _, rfl, sline (by omega), _, _, rfl, rfl, D, _, rfl, g8.st, by omega, by omega, fun spot H9 s0 s1 g9 => ?_⟩
      have eS9 := g9.old nSp eS8
      refine ⟨_, rfl, S, rfl, ⟨_, .inl (.inl eS9)⟩, fun R nR => ?_⟩
      have nRp := g9.st.ne_new nR
      have nRS : S ≠ R := ne_of_none eS9 nR
      have freeR := (g8.trans g9).free d nR
      refine lc_list (K := K) (a := S) (xs := (sgns a b n.toNat).map V.str) (fun i H10 => Go D H H10 ∧ H10 S = some (.lst ((sgns a b n.toNat).map V.str)) ∧ H10 R = some (.lst ((((sgns a b n.toNat).map (stm stem spot.toNat)).take i).map V.str)))
        ⟨(g8.trans g9).new nR, by rw [upd_ne nRS]; exact eS9, upd_same⟩ (fun i H10 _ z => .inl (.inl z.2.1)) ?_ ?_
      · rintro i y H10 hi ⟨g10, e1, e2⟩
        obtain ⟨x, hx, rfl⟩ := getmap hi
        have hxm := sgns_mem l40 (List.mem_of_getElem? hx)
        have hlt := lt_of_get hx
        have c1 := cutS_length stem none (some spot)
        have c2 := cutS_length stem (some spot) none
        refine ⟨rfl, _, rfl, _, rfl, spot, rfl, stem, rfl, sline (by omega), _, rfl, _, _, rfl, rfl, sline (by omega), _, rfl, _, rfl, spot, rfl, stem, rfl, sline (by omega), _, _, rfl, rfl, sline ?_, ?_⟩
        · show ((cutS stem none (some spot)).cps ++ x.cps).size + _ ≤ 100000
          rw [Array.size_append]
          have z1 : (cutS stem none (some spot)).cps.size = (cutS stem none (some spot)).length := rfl
          have z2 : x.cps.size = x.length := rfl
          omega
        · rw [stm_eq s0 (by omega)]
          refine ⟨_, e2, slineL (by rw [List.length_map, List.length_take]; omega), g10.mut d freeR, by rw [upd_ne nRS]; exact e1, ?_⟩
          rw [upd_same, take_succ_map (f := V.str) (x := stm stem spot.toNat x) (by rw [List.getElem?_map, hx]; rfl)]
      · rintro H10 ⟨g10, e1, e2⟩
        rw [List.length_map, show (sgns a b n.toNat).length = ((sgns a b n.toNat).map (stm stem spot.toNat)).length from (List.length_map _).symm, List.take_length] at e2
        exact q R _ H10 (nms_stem k1 (by omega) ha hb l40) (by rw [List.length_map, lenS]; omega) freeR e2 g10
    refine ⟨_, rfl, rfl, _, rfl, ?_⟩
    refine ite2 (fun hw1 => ?_) (fun hw1 => ?_)
    · -- words of the texts ahead
      refine ⟨(by show 12 ≤ sizeLine; decide), fun c nc => ?_⟩
      have ncp := g8.st.ne_new nc
      have g9 := g8.new (o := .lst (kno.map V.str)) nc
      have eS9 : (upd H8 c (.lst (kno.map V.str))) S = some (.lst ((sgns a b n.toNat).map V.str)) := by rw [upd_ne (ne_of_none eS8 nc)]; exact eS8
      have ec9 : (upd H8 c (.lst (kno.map V.str))) c = some (.lst (kno.map V.str)) := upd_same
      show _
      refine ⟨_, rfl, _, rfl, _, rfl, D, c, kno.map V.str, rfl, g9.st, sqh ncp ec9, by show 12 ≤ 1000; decide, fun r ys H10 pm nr er g10 => ?_⟩
      obtain ⟨zs, rfl, pz⟩ := perm_strs pm
      have lz : zs.length = 12 := pz.length_eq
      have eS10 := g10.old nSp eS9
      refine ⟨_, rfl, r, S, _, _, rfl, rfl, er, eS10, sline (by rw [List.length_map, List.length_map]; omega), fun e ne_ => ?_⟩
      have nep := g10.st.ne_new ne_
      rw [← List.map_append]
      refine ⟨_, rfl, n, rfl, e, _, rfl, .inl (.inl upd_same), fun v nv => ?_⟩
      have nvp := ((g9.trans g10).new ne_).st.ne_new nv
      rw [cut_to _ (by omega), ← List.map_take]
      have nm := nms_known ha hb l40 pz n.toNat
      have lm : ((zs ++ sgns a b n.toNat).take n.toNat).length = n.toNat := by rw [List.length_take, List.length_append]; omega
      generalize (zs ++ sgns a b n.toNat).take n.toNat = ws at nm lm ⊢
      refine ⟨D, v, ws.map V.str, rfl, (((g9.trans g10).new ne_).new nv).st, sqh nvp upd_same, by rw [List.length_map]; omega, fun r2 ys2 H11 pm2 nr2 er2 g11 => ?_⟩
      obtain ⟨zs2, rfl, pz2⟩ := perm_strs pm2
      have gg := ((g9.trans g10).new ne_).new (o := .lst (ws.map V.str)) nv
      exact q r2 zs2 H11 ⟨pz2.nodup_iff.mpr nm.1, fun x hx => nm.2 x (pz2.mem_iff.mp hx)⟩ (by rw [pz2.length_eq, lm]; omega) (gg.free d nr2) er2 (gg.trans g11)
    · -- names one by one
      refine ⟨Nat.zero_le _, fun R nR => ?_⟩
      have nRp := g8.st.ne_new nR
      have nRS : S ≠ R := ne_of_none eS8 nR
      have freeR := g8.free d nR
      refine ⟨_, rfl, n, rfl, by omega, by omega, for_range (lo := 0) (n := n.toNat) (fun i σ H9 => ∃ (xs : List Str) (y1 y2 y3 y4 : Option V), σ = [some (.ref D.p), some (.int n), some (.int a), some (.int b), some (.ref L), y1, some (.ref S), some (.int way), some (.str stem), none, none, none, some (.ref R), y2, y3, y4] ∧
          Go D H H9 ∧ H9 S = some (.lst ((sgns a b n.toNat).map V.str)) ∧ H9 R = some (.lst (xs.map V.str)) ∧ Nms xs ∧ xs.length = i)
        ⟨[], none, none, none, none, rfl, g8.new nR, by rw [upd_ne nRS]; exact eS8, upd_same, ⟨List.nodup_nil, fun _ z => nomatch z⟩, rfl⟩ ?_ ?_⟩
      · rintro i σ H9 hi ⟨xs, y1, y2, y3, y4, rfl, g9, e1, e2, nm, lx⟩
        have lxs : (xs.map V.str).length ≤ 40 := by rw [List.length_map]; omega
        refine ⟨fun σ H10 => ∃ (c : Bool) (y3 y4 : Option V), σ = [some (.ref D.p), some (.int n), some (.int a), some (.int b), some (.ref L), some (.int (0 + (i : Int))), some (.ref S), some (.int way), some (.str stem), none, none, none, some (.ref R), some (.bl c), y3, y4] ∧
          Go D H H10 ∧ H10 S = some (.lst ((sgns a b n.toNat).map V.str)) ∧ H10 R = some (.lst (xs.map V.str)) ∧ (c = true → 0 < i), ?_, ?_⟩
        · refine ⟨_, rfl, _, _, rfl, rfl, _, rfl, ?_⟩
          refine ite2 (fun hp => ?_) (fun hp => ?_)
          · have hp' : 0 < i := by have := of_decide_eq_true hp; omega
            refine ⟨_, rfl, D, 3, rfl, g9.st, by decide, by decide, fun r H10 r0 r1 g10 => ⟨rfl, _, _, _, rfl, g9.trans g10, g10.old nSp e1, g10.old nRp e2, fun _ => hp'⟩⟩
          · exact ⟨_, _, _, rfl, g9, e1, e2, fun z => nomatch z⟩
        rintro σ H10 ⟨c, y3, y4, rfl, g10, e3, e4, hc⟩
        refine ⟨fun σ H11 => ∃ (tag : Str) (y4 : Option V), σ = [some (.ref D.p), some (.int n), some (.int a), some (.int b), some (.ref L), some (.int (0 + (i : Int))), some (.ref S), some (.int way), some (.str stem), none, none, none, some (.ref R), some (.bl c), some (.str tag), y4] ∧
          Go D H H11 ∧ H11 S = some (.lst ((sgns a b n.toNat).map V.str)) ∧ H11 R = some (.lst (xs.map V.str)) ∧ isNm tag = true, ?_, ?_⟩
        · refine ⟨_, rfl, c, rfl, ?_⟩
          cases c with
          | true =>
            refine iteT ?_
            have hp' := hc rfl
            refine ⟨_, rfl, _, rfl, _, rfl, D, _, rfl, g10.st, by omega, by omega, fun r H11 r0 r1 g11 => ?_⟩
            obtain ⟨v, hv⟩ : ∃ v, xs[r.toNat]? = some v := ⟨_, List.getElem?_eq_getElem (by omega)⟩
            have hvn := nm.2 v (List.mem_of_getElem? hv)
            refine ⟨R, _, r, .str v, rfl, rfl, .inl (.inl (g11.old nRp e4)), atI_of r0 (by rw [List.getElem?_map, hv]; rfl), ?_⟩
            refine ⟨_, rfl, D, 1, rfl, g11.st, by decide, by decide, fun x H12 x1 x2 x3 g12 => ?_⟩
            have hvl := isNm_len hvn
            have hz : (v ++ x).length ≤ 100000 := by rw [cs_len, cs_app, List.length_append, ← cs_len, ← cs_len]; omega
            refine ⟨_, _, rfl, rfl, sline (by omega), 6, rfl, _, rfl, sline hz, ?_⟩
            exact ⟨_, _, rfl, (g10.trans g11).trans g12, g12.old nSp (g11.old nSp e3), g12.old nRp (g11.old nRp e4), nm_long hvn x1⟩
          | false =>
            refine iteF ?_
            refine ⟨_, rfl, D, 6, rfl, g10.st, by decide, by decide, fun x H12 x1 x2 x3 g12 => ?_⟩
            exact ⟨_, _, rfl, g10.trans g12, g12.old nSp e3, g12.old nRp e4, nm_word x1 x2 x3⟩
        rintro σ H11 ⟨tag, y4, rfl, g11, e5, e6, ht⟩
        refine ⟨_, rfl, S, rfl, ⟨_, .inl (.inl e5)⟩, fun T nT => ?_⟩
        have nTp := g11.st.ne_new nT
        have nTS : S ≠ T := ne_of_none e5 nT
        have nTR : R ≠ T := ne_of_none e6 nT
        refine lc_list (K := K) (a := S) (xs := (sgns a b n.toNat).map V.str) (fun i H12 => Go D H H12 ∧ H12 S = some (.lst ((sgns a b n.toNat).map V.str)) ∧ H12 R = some (.lst (xs.map V.str)) ∧ H12 T = some (.lst ((((sgns a b n.toNat).take i).filter (fun s => !decide (s ∈ xs))).map V.str)))
          ⟨g11.new nT, by rw [upd_ne nTS]; exact e5, by rw [upd_ne nTR]; exact e6, upd_same⟩ (fun i H12 _ z => .inl (.inl z.2.1)) ?_ ?_
        · rintro j y H12 hj ⟨g12, z1, z2, z3⟩
          obtain ⟨x, hx, rfl⟩ := getmap hj
          have hlt := lt_of_get hx
          have hl3 : ((((sgns a b n.toNat).take j).filter (fun s => !decide (s ∈ xs))).map V.str).length < sizeLine := by
            refine slineL ?_
            rw [List.length_map]
            have q1 := List.length_filter_le (fun s => !decide (s ∈ xs)) ((sgns a b n.toNat).take j)
            rw [List.length_take] at q1
            omega
          have step : ((sgns a b n.toNat).take (j + 1)).filter (fun s => !decide (s ∈ xs)) = ((sgns a b n.toNat).take j).filter (fun s => !decide (s ∈ xs)) ++ (if x ∈ xs then [] else [x]) := by
            rw [List.take_add_one, hx, List.filter_append]
            by_cases hm : x ∈ xs
            · simp [hm]
            · simp [hm]
          refine ⟨rfl, _, rfl, _, rfl, R, _, rfl, .inl (.inl (.inl z2)), rfl, flatS xs, _, rfl, ?_⟩
          rw [inS]
          refine ite2 (fun hm => ?_) (fun hm => ?_)
          · have hm' : x ∉ xs := by simpa using hm
            refine ⟨_, rfl, _, z3, hl3, g12.mut d (g11.free d nT), by rw [upd_ne nTS]; exact z1, by rw [upd_ne nTR]; exact z2, ?_⟩
            rw [upd_same, step, if_neg hm', List.map_append]
            rfl
          · have hm' : x ∈ xs := by simpa using hm
            refine ⟨g12, z1, z2, ?_⟩
            rw [z3, step, if_pos hm', List.append_nil]
        · rintro H12 ⟨g12, z1, z2, z3⟩
          rw [List.length_map, List.take_length] at z3
          refine ⟨_, rfl, .inl ⟨rfl, _, .inl (.inl z2)⟩, _, rfl, _, rfl, R, _, rfl, .inl (.inl (.inl z2)), rfl, flatS xs, _, rfl, ?_⟩
          rw [inS]
          have app : ∀ x : Str, isNm x = true → x ∉ xs → ∃ l ys w, V.ref R = V.ref l ∧ [V.str x] = [w] ∧ H12 l = some (.lst ys) ∧ ys.length < sizeLine ∧
              ∃ (xs' : List Str) (y1 y2 y3 y4 : Option V), [some (V.ref D.p), some (V.int n), some (V.int a), some (V.int b), some (V.ref L), some (V.int (0 + (i : Int))), some (V.ref S), some (V.int way), some (V.str stem), none, none, none, some (V.ref R), some (V.bl c), some (V.str tag), some (V.ref T)] =
                [some (.ref D.p), some (.int n), some (.int a), some (.int b), some (.ref L), y1, some (.ref S), some (.int way), some (.str stem), none, none, none, some (.ref R), y2, y3, y4] ∧
                Go D H (upd H12 l (.lst (ys ++ [w]))) ∧ (upd H12 l (.lst (ys ++ [w]))) S = some (.lst ((sgns a b n.toNat).map V.str)) ∧ (upd H12 l (.lst (ys ++ [w]))) R = some (.lst (xs'.map V.str)) ∧ Nms xs' ∧ xs'.length = i + 1 := fun x hx hn =>
            ⟨R, _, _, rfl, rfl, z2, slineL (by omega), xs ++ [x], _, _, _, _, rfl, g12.mut d freeR, by rw [upd_ne nRS]; exact z1, by rw [upd_same, List.map_append]; rfl, nm.snoc hx hn, by rw [List.length_append, lx]; rfl⟩
          refine ite2 (fun hm => ?_) (fun hm => ?_)
          · obtain ⟨s0, r0, hs0⟩ := spare_left (xs := xs) (sgns_nodup ha hb l40) (by omega)
            rw [hs0] at z3
            refine ⟨_, rfl, T, _, 0, .str s0, rfl, rfl, .inl (.inl z3), atI_of (by decide) rfl, ?_⟩
            have hs1 : s0 ∈ (sgns a b n.toNat).filter (fun s => !decide (s ∈ xs)) := by rw [hs0]; exact List.mem_cons_self
            obtain ⟨hs2, hs3⟩ := List.mem_filter.mp hs1
            obtain ⟨q1, q2, q3⟩ := sgns_mem l40 hs2
            exact app s0 (isNm_iff.mpr ⟨q1, by omega, q3⟩) (by simpa using hs3)
          · exact ⟨_, rfl, app tag ht (by simpa using hm)⟩
      · rintro σ H9 ⟨xs, y1, y2, y3, y4, rfl, g9, e1, e2, nm, lx⟩
        exact ⟨_, rfl, q R xs H9 nm (by omega) freeR e2 g9⟩
end
end Th
namespace Th
open PySem PySem.Spec PyProof.Rows L2
abbrev s_l_odd : Stmt := topS 36
theorem sc_l_odd : FnScope ["_law_state"] ["_law_state"] (defScope s_l_odd) := ⟨rfl, rfl, rfl, by decide +kernel, rfl, by decide +kernel, by decide +kernel⟩
/-- the second argument of the call that a def hands back -/
def argE (s : Stmt) : Expr := match defBody s with
  | [.Return (some (.Call _ [_, e] _ _)) _] => e
  | _ => .Constant .none 0 ⟨0, 0, 0, 0⟩
def spOdd (K : PySem.W.Frag) : Sp := fun vs H Q _ => ∃ (D : DS), vs = [.ref D.p] ∧ Drw D H ∧ ∀ (v : V) (d : PyData) H', d ∈ odds → Go D H H' → Da K (hid D.p H') v d → Q v H'
section
variable {P : Program} {w : World} {K : PySem.W.Frag} {mg : Str → Option Value} {base : Heap} {CB CT : Addr}
theorem has_l_odd (Z : Zs mg) (A : At K mg "_law_odd" s_l_odd ["_law_state"]) (h_l_pick : Has P w K mg base "_law_pick" s_l_pick 2 ["_law_state", "_law_pool"] (spPick K)) : Has P w K mg base "_law_odd" s_l_odd 3 ["_law_state"] (spOdd K) := by
  obtain ⟨f, fd, F, mg1, bd⟩ := A
  obtain ⟨f_l_pick, fd_l_pick, G_l_pick, m_l_pick, k_l_pick, b_l_pick, F_l_pick⟩ := h_l_pick
  refine ⟨f, fd, ?_, mg1, F.kp, bd, F⟩
  refine F.ok sc_l_odd (fun vs H Q E h => ?_) (fun cdv A outer s H vs Q E hr h => ?_)
  · obtain ⟨D, rfl, _⟩ := h
    rfl
  · obtain ⟨D, rfl, d, q⟩ := h
    obtain ⟨t, pe, lit, _⟩ := litE_ok (K := K) (X := (cxOf CX0 P w K mg base ["_law_state"] "_law_odd" (defScope s_l_odd) f cdv A outer s H E).nox) 3 (argE s_l_odd) (.list odds) (by kernel_rfl)
    refine ⟨_, (pss_one (ps_ret (pe_call G_l_pick (hr.mono (by decide)) (by rfl) m_l_pick k_l_pick b_l_pick .nil pass0 (pa_cons (pv 0) (pa_cons pe pa_nil))))), ?_⟩
    refine ⟨_, rfl, lit D _ H _ d fun v H1 g1 r => ?_⟩
    cases r with
    | lst hs ht ha =>
      have lv := ha.len
      have l35 : odds.length = 35 := rfl
      refine ⟨D, _, _, rfl, g1.st, hs, by omega, by omega, fun i v H2 hv g3 => ?_⟩
      obtain ⟨e, he, re⟩ := ha.at hv
      exact q v e H2 (List.mem_of_getElem? he) (g1.trans g3) (re.to g3.sm)
end
end Th
namespace Th
open PySem PySem.Spec PyProof.Rows L2
abbrev s_l_stock : Stmt := topS 41
theorem sc_l_stock : FnScope ["_law_state", "_law_tags", "_law_sorts", "_law_held", "_law_tag", "_law_sort_z", "_law_some", "_law_k", "_law_row"] ["_law_state", "_law_tags", "_law_sorts"] (defScope s_l_stock) := ⟨rfl, rfl, rfl, by decide +kernel, rfl, by decide +kernel, by decide +kernel⟩
/-- lists of texts that grow, in a list -/
structure Rows (H : Hp) (HL : Addr) (Ls : List Addr) (kss : List (List Str)) : Prop where
  hl : H HL = some (.lst (Ls.map V.ref))
  len : Ls.length = kss.length
  nd : Ls.Nodup
  at_ : ∀ (j : Nat) (L : Addr) (ks : List Str), Ls[j]? = some L → kss[j]? = some ks → H L = some (.lst (ks.map V.str))
theorem lst_noD {D : DS} {H : Hp} (d : Drw D H) {L : Addr} {ks : List Str} (h : H L = some (.lst (ks.map V.str))) : L ≠ D.p := fun z => by
  obtain ⟨_, _, _, i, v, m, c, st, _⟩ := d
  rw [z, st] at h
  cases ks with
  | nil => cases h
  | cons y r => cases h
theorem Rows.go {D : DS} {H H' : Hp} {HL : Addr} {Ls : List Addr} {kss : List (List Str)} (r : Rows H HL Ls kss) (d : Drw D H) (n : HL ≠ D.p) (g : Go D H H') : Rows H' HL Ls kss :=
  ⟨g.old n r.hl, r.len, r.nd, fun j L ks h1 h2 => g.old (lst_noD d (r.at_ j L ks h1 h2)) (r.at_ j L ks h1 h2)⟩
theorem Rows.sm {H H' : Hp} {HL : Addr} {Ls : List Addr} {kss : List (List Str)} (r : Rows H HL Ls kss) (s : Same H H') : Rows H' HL Ls kss :=
  ⟨s _ _ r.hl, r.len, r.nd, fun j L ks h1 h2 => s _ _ (r.at_ j L ks h1 h2)⟩
theorem Rows.put {H : Hp} {HL : Addr} {Ls : List Addr} {kss : List (List Str)} (r : Rows H HL Ls kss) {j : Nat} {L : Addr} {ks ks' : List Str} (h1 : Ls[j]? = some L) (h2 : kss[j]? = some ks) : Rows (upd H L (.lst (ks'.map V.str))) HL Ls (kss.set j ks') := by
  have eL := r.at_ j L ks h1 h2
  have nHL : HL ≠ L := fun z => by
    have e := r.hl
    rw [z, eL] at e
    have e2 : ks.map V.str = Ls.map V.ref := by injection Option.some.inj e
    cases ks with
    | nil =>
      have := congrArg List.length e2
      rw [List.length_map, List.length_map] at this
      have := lt_of_get h1
      rw [List.length_nil] at *
      omega
    | cons y ys =>
      cases Ls with
      | nil => cases e2
      | cons a as => cases e2
  refine ⟨by rw [upd_ne nHL]; exact r.hl, by rw [List.length_set]; exact r.len, r.nd, fun j2 L2 ks2 g1 g2 => ?_⟩
  by_cases z : j2 = j
  · subst z
    rw [h1] at g1
    cases g1
    rw [List.getElem?_set, if_pos rfl, if_pos (lt_of_get h2)] at g2
    cases g2
    exact upd_same
  · have ne : L2 ≠ L := fun e => z (by
      rw [e] at g1
      exact nodup_at r.nd g1 h1)
    rw [upd_ne ne]
    rw [List.getElem?_set, if_neg (fun e => z e.symm)] at g2
    exact r.at_ j2 L2 ks2 g1 g2
/-- the rows of a drawn table -/
structure StockOk (xs ss : List Str) (hs : List (Str × List Str)) : Prop where
  nm : hs.map (·.1) = xs
  nd : ∀ p ∈ hs, p.2.Nodup
  sub : ∀ p ∈ hs, ∀ k ∈ p.2, k ∈ ss
  all : ∀ k ∈ ss, ∃ p ∈ hs, k ∈ p.2
/-- rows that stand: pairs of a find and the list of its kinds -/
inductive StockH (H : Hp) : List V → List (Str × List Str) → Prop
  | nil : StockH H [] []
  | cons {p L : Addr} {x : Str} {ks : List Str} {us : List V} {hs : List (Str × List Str)} : H p = some (.tup [.str x, .ref L]) → H L = some (.lst (ks.map V.str)) → StockH H us hs → StockH H (.ref p :: us) ((x, ks) :: hs)
theorem stockH_ix {H : Hp} : ∀ {ps : List Addr} {hs : List (Str × List Str)}, ps.length = hs.length → (∀ (i : Nat) p z, ps[i]? = some p → hs[i]? = some z → ∃ L, H p = some (.tup [.str z.1, .ref L]) ∧ H L = some (.lst (z.2.map V.str))) → StockH H (ps.map V.ref) hs
  | [], [], _, _ => .nil
  | p :: ps, z :: hs, hl, h => by
    obtain ⟨L, h1, h2⟩ := h 0 p z rfl rfl
    exact .cons h1 h2 (stockH_ix (Nat.succ.inj hl) fun i p' z' h1 h2 => h (i + 1) p' z' (by simpa using h1) (by simpa using h2))
  | [], _ :: _, hl, _ => nomatch hl
  | _ :: _, [], hl, _ => nomatch hl
theorem StockH.to {H H' : Hp} (s : Same H H') : ∀ {us : List V} {hs : List (Str × List Str)}, StockH H us hs → StockH H' us hs
  | _, _, .nil => .nil
  | _, _, .cons h1 h2 r => .cons (s _ _ h1) (s _ _ h2) (r.to s)
theorem StockH.go {D : DS} {H H' : Hp} (d : Drw D H) (g : Go D H H') : ∀ {us : List V} {hs : List (Str × List Str)}, StockH H us hs → StockH H' us hs
  | _, _, .nil => .nil
  | _, _, .cons h1 h2 r => .cons (g.old (tup_ne d h1) h1) (g.old (lst_noD d h2) h2) (r.go d g)
theorem StockH.len {H : Hp} : ∀ {us : List V} {hs : List (Str × List Str)}, StockH H us hs → us.length = hs.length
  | _, _, .nil => rfl
  | _, _, .cons _ _ r => congrArg Nat.succ r.len
theorem StockH.da {K : PySem.W.Frag} {H : Hp} : ∀ {us : List V} {hs : List (Str × List Str)}, StockH H us hs → DaAll K H us (hs.map rowT)
  | _, _, .nil => .nil
  | _, _, .cons h1 h2 r => .cons (Da.newT h1 (.cons (.str _) (.cons (Da.newL h2 (DaAll.strs _)) .nil))) r.da
/-- rows are drawn -/
def spStock (K : PySem.W.Frag) : Sp := fun vs H Q _ => ∃ (D : DS) (A B : Addr) (xs ss : List Str), vs = [.ref D.p, .ref A, .ref B] ∧ Drw D H ∧ A ≠ D.p ∧ H A = some (.lst (xs.map V.str)) ∧ B ≠ D.p ∧ H B = some (.lst (ss.map V.str)) ∧ 0 < xs.length ∧ xs.length ≤ 60 ∧ ss.Nodup ∧ ss.length ≤ 60 ∧
  ∀ (R : Addr) (us : List V) (hs : List (Str × List Str)) H', StockOk xs ss hs → Go D H H' → H R = none → H' R = some (.lst us) → StockH H' us hs → Q (.ref R) H'
section
variable {P : Program} {w : World} {K : PySem.W.Frag} {mg : Str → Option Value} {base : Heap} {CB CT : Addr}
theorem has_l_stock (Z : Zs mg) (A : At K mg "_law_stock" s_l_stock ["_law_state", "_law_tags", "_law_sorts"]) (h_l_draw : Has P w K mg base "_law_draw" s_l_draw 1 ["_law_state", "_law_many"] (spDraw)) (h_l_pick : Has P w K mg base "_law_pick" s_l_pick 2 ["_law_state", "_law_pool"] (spPick K)) : Has P w K mg base "_law_stock" s_l_stock 3 ["_law_state", "_law_tags", "_law_sorts"] (spStock K) := by
  obtain ⟨f, fd, F, mg1, bd⟩ := A
  obtain ⟨f_l_draw, fd_l_draw, G_l_draw, m_l_draw, k_l_draw, b_l_draw, F_l_draw⟩ := h_l_draw
  obtain ⟨f_l_pick, fd_l_pick, G_l_pick, m_l_pick, k_l_pick, b_l_pick, F_l_pick⟩ := h_l_pick
  refine ⟨f, fd, ?_, mg1, F.kp, bd, F⟩
  refine F.ok sc_l_stock (fun vs H Q E h => ?_) (fun cdv A outer s H vs Q E hr h => ?_)
  · obtain ⟨D, A, B, xs, ss, rfl, _⟩ := h
    rfl
  · obtain ⟨D, A, B, xs, ss, rfl, d, nA, eA, nB, eB, x0, x60, nds, s60, q⟩ := h
    refine ⟨_, (pss_cons (ps_set (i := 3) sc_l_stock.nd rfl (Or.inr rfl) (pe_lc (own := [("_law_tag", 4)]) (g := gName 4) (by rfl) sc_l_stock.nd (pi_list (pv 1)) (blkOk_by (own := [("_law_tag", 4)]) (N := ["_law_state", "_law_tags", "_law_sorts", "_law_held", "_law_tag", "_law_sort_z", "_law_some", "_law_k", "_law_row"]) (sc := defScope s_l_stock) (by decide +kernel)) (fun _ _ _ _ _ => pg_name (i := 4) sc_l_stock.nd rfl (Or.inl rfl)) (fun _ _ _ _ _ => pts_nil) (fun _ _ _ _ _ => (pe_lst pa_nil)))) (pss_cons (ps_for PassesOwn.never rfl (pi_list (pv 2)) (pg_name (i := 5) sc_l_stock.nd rfl (Or.inl rfl)) (pss_cons (ps_setLc (i := 6) (own := [("_law_k", 7)]) (g := gName 7) (by rfl) sc_l_stock.nd rfl rfl (sw_true rfl rfl rfl (by decide +kernel)) (pi_range1 (by rfl) Z.range_ (pa_cons (pe_call G_l_pick (hr.mono (by decide)) (by rfl) m_l_pick k_l_pick b_l_pick .nil pass0 (pa_cons (pv 0) (pa_cons (pe_lst (pa_cons pe_int (pa_cons pe_int (pa_cons pe_int (pa_cons pe_int (pa_cons pe_int (pa_cons pe_int pa_nil))))))) pa_nil))) pa_nil)) (blkOk_by (own := [("_law_k", 7)]) (N := ["_law_state", "_law_tags", "_law_sorts", "_law_held", "_law_tag", "_law_sort_z", "_law_some", "_law_k", "_law_row"]) (sc := defScope s_l_stock) (by decide +kernel)) (fun _ _ _ _ _ => pg_name (i := 7) sc_l_stock.nd rfl (Or.inl rfl)) (fun _ _ _ _ _ => pts_nil) (fun _ _ _ _ _ => (pe_call G_l_draw (hr.mono (by decide)) (by rfl) m_l_draw k_l_draw b_l_draw .nil pass0 (pa_cons (pv 0) (pa_cons (pe_callB (show CallR _ (.builtin "len") (rLn K) from len_seqK) (by rfl) Z.len_ (by decide +kernel) (pa_cons (pv 1) pa_nil)) pa_nil))))) (pss_one (ps_for PassesOwn.never rfl (pi_range1 (by rfl) Z.range_ (pa_cons (pe_callB call_len_seq (by rfl) Z.len_ (by decide +kernel) (pa_cons (pv 1) pa_nil)) pa_nil)) (pg_name (i := 7) sc_l_stock.nd rfl (Or.inl rfl)) (pss_one (ps_if (pt_cmpR op_in_seq (pv 7) (pv 6) (by rfl)) (pss_cons (ps_set (i := 8) sc_l_stock.nd rfl (Or.inl rfl) (pe_ix ix_list (pv 3) (pv 7) (fun _ _ => rfl))) (pss_one (ps_expr (pe_bm PySem.F.plainAttrs_list PySem.F.slot_list_insert PySem.F.type_list_insert mt_insert (pv 8) (pa_cons (pe_call G_l_draw (hr.mono (by decide)) (by rfl) m_l_draw k_l_draw b_l_draw .nil pass0 (pa_cons (pv 0) (pa_cons (pe_op op_add (pe_callB call_len_seq (by rfl) Z.len_ (by decide +kernel) (pa_cons (pv 8) pa_nil)) pe_int) pa_nil))) (pa_cons (pv 5) pa_nil)))))) pss_nil)))))) (pss_one (ps_ret (pe_lc (own := [("_law_k", 7)]) (g := gName 7) (by rfl) sc_l_stock.nd (pi_range1 (by rfl) Z.range_ (pa_cons (pe_callB call_len_seq (by rfl) Z.len_ (by decide +kernel) (pa_cons (pv 1) pa_nil)) pa_nil)) (blkOk_by (own := [("_law_k", 7)]) (N := ["_law_state", "_law_tags", "_law_sorts", "_law_held", "_law_tag", "_law_sort_z", "_law_some", "_law_k", "_law_row"]) (sc := defScope s_l_stock) (by decide +kernel)) (fun _ _ _ _ _ => pg_name (i := 7) sc_l_stock.nd rfl (Or.inl rfl)) (fun _ _ _ _ _ => pts_nil) (fun _ _ _ _ _ => (pe_tup (pa_cons (pe_ix (show IxR _ (rIxL K) from ix_list) (pv 1) (pv 7) (fun _ _ => rfl)) (pa_cons (pe_ix (show IxR _ (rIxL K) from ix_list) (pv 3) (pv 7) (fun _ _ => rfl)) pa_nil))))))))), ?_⟩
    have lA : (xs.map V.str).length = xs.length := List.length_map _
    have lB : (ss.map V.str).length = ss.length := List.length_map _
    -- empty rows
    refine ⟨_, rfl, A, rfl, ⟨_, .inl (.inl eA)⟩, fun HL nHL => ?_⟩
    have nHD := d.ne_new nHL
    have nAH : A ≠ HL := ne_of_none eA nHL
    refine lc_list (K := K) (a := A) (xs := xs.map V.str) (fun i H2 => Go D H H2 ∧ ∃ Ls : List Addr, (∀ L ∈ Ls, H L = none ∧ L ≠ HL) ∧ Rows H2 HL Ls (List.replicate i [])) ⟨(Go.refl d).new nHL, [], fun L hL => (List.not_mem_nil hL).elim, ⟨upd_same, rfl, List.nodup_nil, fun j L ks h => by simp at h⟩⟩ (fun i H2 _ z => .inl (.inl (z.1.old nA eA))) ?_ ?_
    · rintro i x H2 hx ⟨g2, Ls, hf, rw2⟩
      have hi := lt_of_get hx
      have ll := rw2.len
      rw [List.length_replicate] at ll
      refine ⟨rfl, Nat.zero_le _, fun u nu => ?_⟩
      have nuD := g2.st.ne_new nu
      have nuH : u ≠ HL := fun z => by rw [z, rw2.hl] at nu; cases nu
      have s3 := same_new (o := .lst []) nu
      have g3 := g2.new (o := .lst []) nu
      refine ⟨_, s3 _ _ rw2.hl, slineL (by rw [List.length_map]; omega), ?_⟩
      have nHn : H HL = none := nHL
      have lnu : u ∉ Ls := fun hm => by
        obtain ⟨j, hj⟩ := List.getElem?_of_mem hm
        have := rw2.at_ j u [] hj (by rw [List.getElem?_replicate, if_pos (by have := lt_of_get hj; omega)])
        rw [nu] at this
        cases this
      refine ⟨g3.mut d nHn, Ls ++ [u], fun L hL => ?_, ⟨?_, by rw [List.length_append, List.length_replicate, ll]; rfl, ?_, fun j L ks h1 h2 => ?_⟩⟩
      · rcases List.mem_append.mp hL with h | h
        · exact hf L h
        · rw [List.mem_singleton.mp h]
          exact ⟨g2.free d nu, nuH⟩
      · rw [upd_same, List.map_append]
        rfl
      · exact List.nodup_append.mpr ⟨rw2.nd, List.pairwise_singleton _ u, fun a ha b hb => by rw [List.mem_singleton.mp hb]; exact fun z => lnu (z ▸ ha)⟩
      · have hk : ks = [] := by
          have := List.mem_of_getElem? h2
          exact (List.mem_replicate.mp this).2
        subst hk
        by_cases w : j < Ls.length
        · rw [List.getElem?_append_left w] at h1
          rw [upd_ne (hf L (List.mem_of_getElem? h1)).2]
          exact s3 _ _ (rw2.at_ j L [] h1 (by rw [List.getElem?_replicate, if_pos (by omega)]))
        · rw [List.getElem?_append_right (by omega)] at h1
          have hL := List.mem_of_getElem? h1
          rw [List.mem_singleton] at hL
          subst hL
          rw [upd_ne nuH]
          exact upd_same
    rintro H2 ⟨g2, Ls, hf, rw2⟩
    rw [lA] at rw2
    have lLs : Ls.length = xs.length := by rw [rw2.len, List.length_replicate]
    have nHn : H HL = none := nHL
    -- each kind
    refine ⟨_, rfl, B, rfl, ⟨_, .inl (.inl (g2.old nB eB))⟩, for_list (K := K) (a := B) (xs := ss.map V.str) (fun i σ H3 => ∃ (y1 y2 y3 y4 y5 : Option V) (kss : List (List Str)), σ = [some (.ref D.p), some (.ref A), some (.ref B), some (.ref HL), y1, y2, y3, y4, y5] ∧ Go D H H3 ∧ Rows H3 HL Ls kss ∧ (∀ ks ∈ kss, ks.Nodup ∧ ∀ k ∈ ks, k ∈ ss.take i) ∧ ∀ k ∈ ss.take i, ∃ ks ∈ kss, k ∈ ks)
      ⟨_, _, _, _, _, _, rfl, g2, rw2, fun ks hk => by
        rw [(List.mem_replicate.mp hk).2]
        exact ⟨List.nodup_nil, fun k hk => (List.not_mem_nil hk).elim⟩, fun k hk => by rw [List.take_zero] at hk; exact (List.not_mem_nil hk).elim⟩ (fun i σ H3 _ z => by
        obtain ⟨_, _, _, _, _, _, _, g, _⟩ := z
        exact .inl (.inl (g.old nB eB))) ?_ ?_⟩
    · rintro i x σ H3 hx ⟨y1, y2, y3, y4, y5, kss, rfl, g3, rw3, hk1, hk2⟩
      obtain ⟨s, hs, rfl⟩ := getmap hx
      have hsn : ∀ ks ∈ kss, s ∉ ks := fun ks hks hm => by
        have h := (hk1 ks hks).2 s hm
        obtain ⟨j, hj⟩ := List.getElem?_of_mem h
        rw [List.getElem?_take] at hj
        split at hj
        · rename_i w
          have := nodup_at nds hs hj
          omega
        · cases hj
      have lk : kss.length = xs.length := by rw [← rw3.len, lLs]
      -- where it goes
      refine ⟨_, rfl, (by show 6 ≤ sizeLine; decide), fun u nu => ?_⟩
      have up := g3.st.ne_new nu
      have g4 := g3.new (o := .lst [.int 1, .int 1, .int 2, .int 2, .int 3, .int 5]) nu
      have rw4 := rw3.sm (same_new (o := .lst [.int 1, .int 1, .int 2, .int 2, .int 3, .int 5]) nu)
      refine ⟨D, u, _, rfl, g4.st, sqh up upd_same, by show 0 < 6; decide, by show 6 ≤ 1000; decide, fun i5 vm H5 hvm g5 => ?_⟩
      obtain ⟨m, rfl, m0, m5⟩ : ∃ m : Int, vm = .int m ∧ 0 < m ∧ m ≤ 5 := by
        have hm := List.mem_of_getElem? hvm
        simp only [List.mem_cons, List.not_mem_nil, or_false] at hm
        rcases hm with rfl | rfl | rfl | rfl | rfl | rfl <;> exact ⟨_, rfl, by decide, by decide⟩
      have rw5 := rw4.go g4.st nHD g5
      have g45 := g4.trans g5
      clear g4 g5 rw4
      refine ⟨m, rfl, by omega, by omega, fun S nS => ?_⟩
      have nSD := g45.st.ne_new nS
      have nSn := g45.free d nS
      have nSH : HL ≠ S := fun z => by rw [← z, rw5.hl] at nS; cases nS
      refine lc_range (lo := 0) (n := m.toNat) (fun i6 H6 => Go D H H6 ∧ Rows H6 HL Ls kss ∧ ∃ rs : List Int, H6 S = some (.lst (rs.map V.int)) ∧ rs.length = i6 ∧ ∀ r ∈ rs, 0 ≤ r ∧ r < (xs.length : Int)) ⟨g45.new nS, rw5.sm (same_new nS), [], upd_same, rfl, fun r hr => (List.not_mem_nil hr).elim⟩ ?_ ?_
      · rintro i6 H6 hi6 ⟨g6, rw6, rs, e6, l6, hr6⟩
        refine ⟨rfl, _, rfl, _, rfl, A, _, rfl, .inl (.inl (.inl (g6.old nA eA))), D, _, rfl, g6.st, by omega, by omega, fun r H7 r0 r1 g7 => ?_⟩
        rw [lA] at r1
        refine ⟨_, g7.old nSD e6, slineL (by rw [List.length_map]; omega), (g6.trans g7).mut d nSn, ?_, rs ++ [r], by rw [upd_same, List.map_append]; rfl, by rw [List.length_append, l6]; rfl, fun z hz => ?_⟩
        · have rw7 := rw6.go g6.st nHD g7
          exact ⟨by rw [upd_ne nSH]; exact rw7.hl, rw7.len, rw7.nd, fun j L ks h1 h2 => by
            have e7 := rw7.at_ j L ks h1 h2
            have : L ≠ S := fun z => by
              have h0 := rw5.at_ j L ks h1 h2
              rw [z, nS] at h0
              cases h0
            rw [upd_ne this]
            exact e7⟩
        · rcases List.mem_append.mp hz with h | h
          · exact hr6 z h
          · rw [List.mem_singleton.mp h]; exact ⟨r0, r1⟩
      rintro H6 ⟨g6, rw6, rs, e6, l6, hr6⟩
      obtain ⟨r9, hr9⟩ : ∃ r9, r9 ∈ rs := by
        cases rs with
        | nil => rw [List.length_nil] at l6; omega
        | cons a b => exact ⟨a, List.mem_cons_self⟩
      -- into the rows
      refine ⟨_, rfl, A, _, rfl, .inl (.inl (.inl (g6.old nA eA))), _, rfl, by omega, by omega, ?_⟩
      refine for_range (lo := 0) (n := (((xs.map V.str).length : Nat) : Int).toNat) (fun j σ H7 => ∃ (z4 z5 : Option V) (kss7 : List (List Str)), σ = [some (.ref D.p), some (.ref A), some (.ref B), some (.ref HL), y1, some (.str s), some (.ref S), z4, z5] ∧ Go D H H7 ∧ H7 S = some (.lst (rs.map V.int)) ∧ Rows H7 HL Ls kss7 ∧ (∀ ks ∈ kss7, ks.Nodup ∧ ∀ k ∈ ks, k ∈ ss.take (i + 1)) ∧ (∀ k ∈ ss.take i, ∃ ks ∈ kss7, k ∈ ks) ∧ (∀ (j2 : Nat) ks, j ≤ j2 → kss7[j2]? = some ks → s ∉ ks) ∧ ∀ (j2 : Nat) ks, j2 < j → (j2 : Int) ∈ rs → kss7[j2]? = some ks → s ∈ ks)
        ⟨_, _, kss, rfl, g6, e6, rw6, fun ks hks => ⟨(hk1 ks hks).1, fun k hk => by
          rw [List.take_add_one]
          exact List.mem_append_left _ ((hk1 ks hks).2 k hk)⟩, hk2, fun j2 ks _ h => hsn ks (List.mem_of_getElem? h), fun j2 ks h => absurd h (Nat.not_lt_zero j2)⟩ ?_ ?_
      · rintro j σ H7 hj ⟨z4, z5, kss7, rfl, g7, e7, rw7, a1, a2, a3, a4⟩
        have hj' : j < xs.length := by omega
        refine ⟨_, rfl, _, rfl, S, _, rfl, .inl (.inl (.inl e7)), rfl, flatI _, _, rfl, ?_⟩
        have hin : (rs.any fun p => decide (p = 0 + (j : Int))) = decide ((j : Int) ∈ rs) := by
          rw [Int.zero_add, Bool.eq_iff_iff, List.any_eq_true, decide_eq_true_eq]
          constructor
          · rintro ⟨x, hx, e⟩
            rw [← of_decide_eq_true e]
            exact hx
          · exact fun h => ⟨_, h, decide_eq_true rfl⟩
        rw [inI, hin]
        refine ite2 (fun hm => ?_) (fun hm => ?_)
        · have hm' : (j : Int) ∈ rs := by simpa using hm
          obtain ⟨L, hL⟩ : ∃ L, Ls[j]? = some L := ⟨_, List.getElem?_eq_getElem (by omega)⟩
          obtain ⟨ks, hks⟩ : ∃ ks, kss7[j]? = some ks := ⟨_, List.getElem?_eq_getElem (by rw [← rw7.len]; omega)⟩
          have eL := rw7.at_ j L ks hL hks
          have kmem := List.mem_of_getElem? hks
          have lks : ks.length ≤ 60 := Nat.le_trans (nodup_sub (a1 ks kmem).1 (fun k hk => List.mem_of_mem_take ((a1 ks kmem).2 k hk))) s60
          have lm : (ks.map V.str).length = ks.length := List.length_map _
          refine ⟨_, rfl, _, rfl, HL, _, _, _, rfl, rfl, .inl (.inl rw7.hl), atI_of (by omega) (by rw [show ((0 : Int) + (j : Int)).toNat = j by omega, List.getElem?_map, hL]; rfl), ?_⟩
          refine ⟨_, rfl, .inl ⟨rfl, _, .inl (.inl eL)⟩, _, rfl, _, rfl, L, _, rfl, .inl (.inl (.inl eL)), _, _, rfl, rfl, D, _, rfl, g7.st, by omega, by omega, fun r H8 r0 r1 g8 => ?_⟩
          have rw8 := rw7.go g7.st nHD g8
          have eL8 := rw8.at_ j L ks hL hks
          refine ⟨_, rfl, L, _, r, .str s, rfl, rfl, eL8, slineL (by omega), r0, by omega, ?_⟩
          have ein : (ks.map V.str).take r.toNat ++ [V.str s] ++ (ks.map V.str).drop r.toNat = (ks.take r.toNat ++ [s] ++ ks.drop r.toNat).map V.str := by
            rw [List.map_append, List.map_append, List.map_take, List.map_drop]
            rfl
          rw [ein]
          have pmk : (ks.take r.toNat ++ [s] ++ ks.drop r.toNat).Perm (s :: ks) := by
            rw [List.append_assoc]
            refine List.perm_middle.trans ?_
            show (s :: (ks.take r.toNat ++ ks.drop r.toNat)).Perm (s :: ks)
            rw [List.take_append_drop]
          have snk := a3 j ks (Nat.le_refl _) hks
          have eS8 := g8.old nSD e7
          have nSL : S ≠ L := fun z => by
            have h0 := rw5.at_ j L
            obtain ⟨k0, hk0⟩ : ∃ k0, kss[j]? = some k0 := ⟨_, List.getElem?_eq_getElem (by omega)⟩
            have := h0 k0 hL hk0
            rw [← z, nS] at this
            cases this
          have hLn := (hf L (List.mem_of_getElem? hL)).1
          refine ⟨_, _, kss7.set j (ks.take r.toNat ++ [s] ++ ks.drop r.toNat), rfl, (g7.trans g8).mut d hLn, by rw [upd_ne nSL]; exact eS8, rw8.put hL hks, fun k2 hk2' => ?_, fun k hk => ?_, fun j2 k2 h h2 => ?_, fun j2 k2 h hr h2 => ?_⟩
          · obtain ⟨j2, hj2⟩ := List.getElem?_of_mem hk2'
            rw [List.getElem?_set] at hj2
            split at hj2
            · split at hj2
              · cases hj2
                refine ⟨pmk.nodup_iff.mpr (List.nodup_cons.mpr ⟨snk, (a1 ks kmem).1⟩), fun k hk => ?_⟩
                rcases List.mem_cons.mp (pmk.mem_iff.mp hk) with e | h
                · rw [e, List.take_add_one, hs]
                  exact List.mem_append_right _ List.mem_cons_self
                · exact (a1 ks kmem).2 k h
              · cases hj2
            · exact a1 k2 (List.mem_of_getElem? hj2)
          · obtain ⟨k2, hk2m, hk⟩ := a2 k hk
            obtain ⟨j2, hj2⟩ := List.getElem?_of_mem hk2m
            by_cases z : j2 = j
            · subst z
              rw [hks] at hj2
              cases hj2
              exact ⟨_, List.mem_of_getElem? (i := j2) (by rw [List.getElem?_set, if_pos rfl, if_pos (lt_of_get hks)]), pmk.mem_iff.mpr (List.mem_cons_of_mem _ hk)⟩
            · exact ⟨k2, List.mem_of_getElem? (i := j2) (by rw [List.getElem?_set, if_neg (fun e => z e.symm)]; exact hj2), hk⟩
          · rw [List.getElem?_set, if_neg (by omega)] at h2
            exact a3 j2 k2 (by omega) h2
          · rw [List.getElem?_set] at h2
            split at h2
            · split at h2
              · cases h2
                exact pmk.mem_iff.mpr List.mem_cons_self
              · cases h2
            · exact a4 j2 k2 (by omega) hr h2
        · have hm' : (j : Int) ∉ rs := by simpa using hm
          refine ⟨_, _, kss7, rfl, g7, e7, rw7, a1, a2, fun j2 ks h => a3 j2 ks (by omega), fun j2 ks h hr => ?_⟩
          by_cases z : j2 = j
          · exact absurd (z ▸ hr) hm'
          · exact a4 j2 ks (by omega) hr
      · rintro σ H7 ⟨z4, z5, kss7, rfl, g7, e7, rw7, a1, a2, a3, a4⟩
        refine ⟨_, _, _, _, _, kss7, rfl, g7, rw7, a1, fun k hk => ?_⟩
        rw [List.take_add_one, hs] at hk
        rcases List.mem_append.mp hk with h | h
        · exact a2 k h
        · have ek : k = s := by simpa using h
          subst ek
          obtain ⟨b0, b1⟩ := hr6 r9 hr9
          obtain ⟨j9, rfl⟩ := Int.eq_ofNat_of_zero_le b0
          have hl9 : j9 < kss7.length := by rw [← rw7.len, lLs]; omega
          exact ⟨kss7[j9], List.getElem_mem hl9, a4 j9 _ (by omega) hr9 (List.getElem?_eq_getElem hl9)⟩
    · rintro σ H3 ⟨y1, y2, y3, y4, y5, kss, rfl, g3, rw3, hk1, hk2⟩
      rw [lB, List.take_length] at hk1 hk2
      have lk : kss.length = xs.length := by rw [← rw3.len, lLs]
      refine ⟨_, rfl, A, _, rfl, .inl (.inl (.inl (g3.old nA eA))), _, rfl, by omega, by omega, fun R nR => ?_⟩
      have nRD := g3.st.ne_new nR
      have nRn := g3.free d nR
      have lz : (xs.zip kss).length = xs.length := by rw [List.length_zip, lk, Nat.min_self]
      refine lc_range (lo := 0) (n := (((xs.map V.str).length : Nat) : Int).toNat) (fun i H4 => Go D H H4 ∧ Rows H4 HL Ls kss ∧ ∃ ps : List Addr, H4 R = some (.lst (ps.map V.ref)) ∧ ps.length = i ∧ ∀ (j : Nat) p, ps[j]? = some p → ∃ x L, xs[j]? = some x ∧ Ls[j]? = some L ∧ H4 p = some (.tup [.str x, .ref L])) ⟨g3.new nR, rw3.sm (same_new nR), [], upd_same, rfl, fun j p h => by simp at h⟩ ?_ ?_
      · rintro i H4 hi ⟨g4, rw4, ps, e4, lp, hps⟩
        have hi' : i < xs.length := by omega
        obtain ⟨x, hx⟩ : ∃ x, xs[i]? = some x := ⟨_, List.getElem?_eq_getElem hi'⟩
        obtain ⟨L, hL⟩ : ∃ L, Ls[i]? = some L := ⟨_, List.getElem?_eq_getElem (by omega)⟩
        obtain ⟨ks, hks⟩ : ∃ ks, kss[i]? = some ks := ⟨_, List.getElem?_eq_getElem (by omega)⟩
        have hz : (xs.zip kss)[i]? = some (x, ks) := by
          rw [List.getElem?_zip_eq_some]
          exact ⟨hx, hks⟩
        have i0 : ((0 : Int) + (i : Int)).toNat = i := by omega
        have eL := rw4.at_ i L ks hL hks
        refine ⟨rfl, _, rfl, _, rfl, A, _, _, .str x, rfl, rfl, .inl (.inl (g4.old nA eA)), atI_of (by omega) (by rw [i0, List.getElem?_map, hx]; rfl), _, rfl, _, rfl, HL, _, _, .ref L, rfl, rfl, .inl (.inl rw4.hl), atI_of (by omega) (by rw [i0, List.getElem?_map, hL]; rfl), by show 2 ≤ sizeLine; decide, fun u nu => ?_⟩
        have nuD := g4.st.ne_new nu
        have s5 := same_new (o := .tup [.str x, .ref L]) nu
        have g45 := Go.of g4.st s5
        have e5 := s5 _ _ e4
        have nuR : u ≠ R := fun z => by rw [z, e4] at nu; cases nu
        have eu : (upd H4 u (.tup [.str x, .ref L])) u = some (.tup [.str x, .ref L]) := upd_same
        have rw5 := rw4.sm s5
        have hps5 : ∀ (j : Nat) p, ps[j]? = some p → ∃ x2 L2, xs[j]? = some x2 ∧ Ls[j]? = some L2 ∧ (upd H4 u (.tup [.str x, .ref L])) p = some (.tup [.str x2, .ref L2]) := fun j p h => by
          obtain ⟨x2, L2, h1, h2, h3⟩ := hps j p h
          exact ⟨x2, L2, h1, h2, s5 _ _ h3⟩
        have g5 := g4.trans g45
        generalize upd H4 u (.tup [.str x, .ref L]) = H5 at e5 eu rw5 hps5 g5 ⊢
        have eL5 := rw5.at_ i L ks hL hks
        have nLD := lst_noD g5.st eL5
        have nRL : R ≠ L := fun z => by
          have := rw3.at_ i L ks hL hks
          rw [← z, nR] at this
          cases this
        have nRH : HL ≠ R := fun z => by
          have := rw3.hl
          rw [z, nR] at this
          cases this
        refine ⟨_, e5, slineL (by rw [List.length_map]; omega), g5.mut d nRn, ⟨by rw [upd_ne nRH]; exact rw5.hl, rw5.len, rw5.nd, fun j L2 k2 h1 h2 => ?_⟩, ps ++ [u], by rw [upd_same, List.map_append]; rfl, by rw [List.length_append, lp]; rfl, fun j p h => ?_⟩
        · rw [upd_ne (fun z => by
            have := rw3.at_ j L2 k2 h1 h2
            rw [z, nR] at this
            cases this)]
          exact rw5.at_ j L2 k2 h1 h2
        · by_cases w : j < ps.length
          · rw [List.getElem?_append_left w] at h
            obtain ⟨x2, L2, h1, h2, h3⟩ := hps5 j p h
            exact ⟨x2, L2, h1, h2, by rw [upd_ne (fun z => by rw [z, e5] at h3; cases h3)]; exact h3⟩
          · rw [List.getElem?_append_right (by omega)] at h
            have hp := List.mem_of_getElem? h
            rw [List.mem_singleton] at hp
            subst hp
            have hj : j = i := by have := lt_of_get h; rw [List.length_singleton] at this; omega
            subst hj
            exact ⟨x, L, hx, hL, by rw [upd_ne nuR]; exact eu⟩
      · rintro H4 ⟨g4, rw4, ps, e4, lp, hps⟩
        have lp' : ps.length = xs.length := by omega
        refine q R _ (xs.zip kss) H4 ⟨?_, fun p hp => ?_, fun p hp => ?_, fun k hk => ?_⟩ g4 nRn e4 (stockH_ix (by rw [lz, lp']) fun i p z hp hz => ?_)
        · exact List.map_fst_zip (by omega)
        · exact (hk1 p.2 (List.of_mem_zip hp).2).1
        · exact (hk1 p.2 (List.of_mem_zip hp).2).2
        · obtain ⟨ks, hks, hkk⟩ := hk2 k hk
          obtain ⟨j, hj⟩ := List.getElem?_of_mem hks
          obtain ⟨x, hx⟩ : ∃ x, xs[j]? = some x := ⟨_, List.getElem?_eq_getElem (by have := lt_of_get hj; omega)⟩
          exact ⟨(x, ks), List.mem_of_getElem? (i := j) (by rw [List.getElem?_zip_eq_some]; exact ⟨hx, hj⟩), hkk⟩
        · obtain ⟨x, L, h1, h2, h3⟩ := hps i p hp
          rw [List.getElem?_zip_eq_some] at hz
          rw [h1] at hz
          have ex := Option.some.inj hz.1
          exact ⟨L, by rw [← ex]; exact h3, rw4.at_ i L z.2 h2 hz.2⟩
end
end Th
namespace Th
open PySem PySem.Spec PyProof.Rows L2
abbrev s_l_spoilt : Stmt := topS 44
theorem sc_l_spoilt : FnScope ["_law_state", "_law_rows", "_law_pool", "_law_spot", "_law_way", "_law_tag", "_law_some", "_law_k", "_law_new"] ["_law_state", "_law_rows", "_law_pool"] (defScope s_l_spoilt) := ⟨rfl, rfl, rfl, by decide +kernel, rfl, by decide +kernel, by decide +kernel⟩
structure Bn2 (K : PySem.W.Frag) (D : DS) (H0 H : Hp) (R : Addr) (vs : List V) (ds : List PyData) (n : Nat) : Prop where
  g : Go D H0 H
  rp : R ≠ D.p
  er : H R = some (.lst vs)
  da : DaAll K (hid D.p H) vs ds
  lv : ∀ d ∈ ds, Okd 5 5 2000 d
  len : ds.length ≤ n
theorem Bn2.to {K : PySem.W.Frag} {D : DS} {H0 H H' : Hp} {R : Addr} {vs : List V} {ds : List PyData} {n : Nat} (s : Bn2 K D H0 H R vs ds n) (g : Go D H H') : Bn2 K D H0 H' R vs ds n :=
  ⟨s.g.trans g, s.rp, g.old s.rp s.er, s.da.to g.sm, s.lv, s.len⟩
theorem Bn2.new {K : PySem.W.Frag} {D : DS} {H0 H : Hp} {R q : Addr} {o : HO} {vs : List V} {ds : List PyData} {n : Nat} (s : Bn2 K D H0 H R vs ds n) (h : H q = none) : Bn2 K D H0 (upd H q o) R vs ds n := s.to (Go.of s.g.st (same_new h))
theorem Bn2.up {K : PySem.W.Frag} {D : DS} {H0 H : Hp} {R : Addr} {vs : List V} {ds : List PyData} {n m : Nat} (s : Bn2 K D H0 H R vs ds n) (h : n ≤ m) : Bn2 K D H0 H R vs ds m := ⟨s.g, s.rp, s.er, s.da, s.lv, Nat.le_trans s.len h⟩
theorem Bn2.put {K : PySem.W.Frag} {D : DS} {H0 H : Hp} {R : Addr} {vs : List V} {ds : List PyData} {n m : Nat} (s : Bn2 K D H0 H R vs ds n) {q : Addr} {ws : List V} {es : List PyData} (nq : H q = none) (da : DaAll K (hid D.p H) ws es) (lv : ∀ d ∈ es, Okd 5 5 2000 d) (len : es.length ≤ m) :
    Bn2 K D H0 (upd H q (.lst ws)) q ws es m :=
  ⟨s.g.new nq, s.g.st.ne_new nq, upd_same, da.to (Go.of s.g.st (same_new nq)).sm, lv, len⟩
theorem cut_sum {vs : List V} {spot : Int} (h : 0 ≤ spot) : (cutV vs none (some spot)).length + (cutV vs (some (spot + 1)) none).length ≤ vs.length := by
  unfold cutV
  rw [List.length_take, List.length_drop, List.length_take, List.length_drop, HT.sIx_none, HT.sIx_none]
  have e1 : HT.sIx vs.length vs.length (some spot) = min spot.toNat vs.length := by
    have z : spot = ((spot.toNat : Nat) : Int) := by omega
    rw [z, HT.sIx_nat, Int.toNat_natCast]
  have e2 : HT.sIx vs.length 0 (some (spot + 1)) = min (spot + 1).toNat vs.length := by
    have z : spot + 1 = (((spot + 1).toNat : Nat) : Int) := by omega
    rw [z, HT.sIx_nat, Int.toNat_natCast]
  rw [e1, e2]
  omega
theorem da_perm {K : PySem.W.Frag} {H : Hp} {vs ys : List V} (p : ys.Perm vs) : ∀ {ds : List PyData}, DaAll K H vs ds → ∃ es, DaAll K H ys es ∧ es.Perm ds := by
  induction p with
  | nil => intro ds h; exact ⟨ds, h, .refl _⟩
  | cons x _ ih =>
    intro ds h
    cases h with
    | cons h1 h2 =>
      obtain ⟨es, a, b⟩ := ih h2
      exact ⟨_, .cons h1 a, b.cons _⟩
  | swap x y l =>
    intro ds h
    cases h with
    | cons h1 h2 =>
      cases h2 with
      | cons h3 h4 => exact ⟨_, .cons h3 (.cons h1 h4), .swap _ _ _⟩
  | trans _ _ ih1 ih2 =>
    intro ds h
    obtain ⟨es, a, b⟩ := ih2 h
    obtain ⟨fs, c, e⟩ := ih1 a
    exact ⟨fs, c, e.trans b⟩
theorem cut_two {vs : List V} {spot : Int} (h : 0 ≤ spot) : (cutV vs none (some spot)).length + (cutV vs (some spot) none).length = vs.length := by
  unfold cutV
  rw [List.length_take, List.length_drop, List.length_take, List.length_drop, HT.sIx_none, HT.sIx_none]
  have z : spot = ((spot.toNat : Nat) : Int) := by omega
  have e1 : HT.sIx vs.length vs.length (some spot) = min spot.toNat vs.length := by
    rw [z, HT.sIx_nat, Int.toNat_natCast]
  have e2 : HT.sIx vs.length 0 (some spot) = min spot.toNat vs.length := by
    rw [z, HT.sIx_nat, Int.toNat_natCast]
  rw [e1, e2]
  omega
theorem da_snoc {K : PySem.W.Frag} {H : Hp} {v : V} {d : PyData} : ∀ {vs : List V} {ds : List PyData}, DaAll K H vs ds → Da K H v d → DaAll K H (vs ++ [v]) (ds ++ [d])
  | _, _, .nil, r => .cons r .nil
  | _, _, .cons a b, r => .cons a (da_snoc b r)

theorem all_one {α : Type} {P : α → Prop} {a : α} (h : P a) : ∀ e ∈ [a], P e := fun e he => by rw [List.mem_singleton.mp he]; exact h
theorem all_snoc {α : Type} {P : α → Prop} {xs : List α} {a : α} (h : ∀ e ∈ xs, P e) (k : P a) : ∀ e ∈ xs ++ [a], P e := fun e he => by
  rcases List.mem_append.mp he with he | he
  · exact h e he
  · rw [List.mem_singleton.mp he]; exact k
theorem all_two {α : Type} {P : α → Prop} {a b : α} (h : P a) (k : P b) : ∀ e ∈ [a, b], P e := fun e he => by
  rcases List.mem_cons.mp he with rfl | he
  · exact h
  · rw [List.mem_singleton.mp he]; exact k
/-- rows, spoilt in one place -/
def spSpoilt7 (K : PySem.W.Frag) : Sp := fun vs H Q _ => ∃ (D : DS) (R PL : Addr) (ws : List V) (ds : List PyData) (xs : List Str) (n : Nat), vs = [.ref D.p, .ref R, .ref PL] ∧ Bn2 K D H H R ws ds n ∧ n ≤ 50 ∧ H PL = some (.lst (xs.map V.str)) ∧ PL ≠ D.p ∧ (∀ x ∈ xs, isNm x = true) ∧ 0 < xs.length ∧ xs.length ≤ 60 ∧
  ∀ (r : Addr) (us : List V) (es : List PyData) (dn : PyData) H', Bn2 K D H H' r us es (n + 1) → (rowK dn).length ≤ 6 → (∀ e ∈ es, e ∈ ds ∨ e = dn) → Q (.ref r) H'
theorem odds_rowK : ∀ d ∈ odds, (rowK d).length ≤ 6 ∧ ∀ m, (rowK (.tuple [m, d])).length ≤ 6 := by
  have h : odds.all (fun d => decide ((rowK d).length ≤ 6) && decide ((rowK (.tuple [.none, d])).length ≤ 6)) = true := by decide +kernel
  intro d hd
  have := List.all_eq_true.mp h d hd
  rw [Bool.and_eq_true, decide_eq_true_eq, decide_eq_true_eq] at this
  exact ⟨this.1, fun m => this.2⟩
section
variable {P : Program} {w : World} {K : PySem.W.Frag} {mg : Str → Option Value} {base : Heap} {CB CT : Addr}
theorem has_l_spoilt (Z : Zs mg) (A : At K mg "_law_spoilt" s_l_spoilt ["_law_state", "_law_rows", "_law_pool"]) (h_l_draw : Has P w K mg base "_law_draw" s_l_draw 1 ["_law_state", "_law_many"] (spDraw)) (h_l_pick : Has P w K mg base "_law_pick" s_l_pick 2 ["_law_state", "_law_pool"] (spPick K)) (h_l_odd : Has P w K mg base "_law_odd" s_l_odd 3 ["_law_state"] (spOdd K)) : Has P w K mg base "_law_spoilt" s_l_spoilt 4 ["_law_state", "_law_rows", "_law_pool"] (spSpoilt7 K) := by
  obtain ⟨f, fd, F, mg1, bd⟩ := A
  obtain ⟨f_l_draw, fd_l_draw, G_l_draw, m_l_draw, k_l_draw, b_l_draw, F_l_draw⟩ := h_l_draw
  obtain ⟨f_l_pick, fd_l_pick, G_l_pick, m_l_pick, k_l_pick, b_l_pick, F_l_pick⟩ := h_l_pick
  obtain ⟨f_l_odd, fd_l_odd, G_l_odd, m_l_odd, k_l_odd, b_l_odd, F_l_odd⟩ := h_l_odd
  refine ⟨f, fd, ?_, mg1, F.kp, bd, F⟩
  refine F.ok sc_l_spoilt (fun vs H Q E h => ?_) (fun cdv A outer s H vs Q E hr h => ?_)
  · obtain ⟨D, R, PL, ws, ds, xs, n, rfl, _⟩ := h
    rfl
  · obtain ⟨D, R, PL, ws, ds, xs, n, rfl, s0, n50, ePL, pPL, nmx, l0, l60, q⟩ := h
    refine ⟨_, (pss_cons (ps_par3 (i := 3) (j := 4) (l := 5) (by rfl) sc_l_spoilt.nd rfl rfl rfl (by decide) (by decide) (by decide) rfl rfl rfl (pa_cons (pe_call G_l_draw (hr.mono (by decide)) (by rfl) m_l_draw k_l_draw b_l_draw .nil pass0 (pa_cons (pv 0) (pa_cons (pe_op op_add (pe_callB call_len_seq (by rfl) Z.len_ (by decide +kernel) (pa_cons (pv 1) pa_nil)) pe_int) pa_nil))) (pa_cons (pe_call G_l_draw (hr.mono (by decide)) (by rfl) m_l_draw k_l_draw b_l_draw .nil pass0 (pa_cons (pv 0) (pa_cons pe_int pa_nil))) (pa_cons (pe_call G_l_pick (hr.mono (by decide)) (by rfl) m_l_pick k_l_pick b_l_pick .nil pass0 (pa_cons (pv 0) (pa_cons (pv 2) pa_nil))) pa_nil))) (by rfl)) (pss_cons (ps_setLc (i := 6) (own := [("_law_k", 7)]) (g := gName 7) (by rfl) sc_l_spoilt.nd rfl rfl (sw_true rfl rfl rfl (by decide +kernel)) (pi_range1 (by rfl) Z.range_ (pa_cons (pe_call G_l_draw (hr.mono (by decide)) (by rfl) m_l_draw k_l_draw b_l_draw .nil pass0 (pa_cons (pv 0) (pa_cons pe_int pa_nil))) pa_nil)) (blkOk_by (own := [("_law_k", 7)]) (N := ["_law_state", "_law_rows", "_law_pool", "_law_spot", "_law_way", "_law_tag", "_law_some", "_law_k", "_law_new"]) (sc := defScope s_l_spoilt) (by decide +kernel)) (fun _ _ _ _ _ => pg_name (i := 7) sc_l_spoilt.nd rfl (Or.inl rfl)) (fun _ _ _ _ _ => pts_nil) (fun _ _ _ _ _ => (pe_call G_l_pick (hr.mono (by decide)) (by rfl) m_l_pick k_l_pick b_l_pick .nil pass0 (pa_cons (pv 0) (pa_cons (pv 2) pa_nil))))) (pss_cons (ps_set (i := 8) sc_l_spoilt.nd rfl (Or.inl rfl) (pe_ix ix_list (pe_lst (pa_cons (pe_call G_l_odd (hr.mono (by decide)) (by rfl) m_l_odd k_l_odd b_l_odd .nil pass0 (pa_cons (pv 0) pa_nil)) (pa_cons (pe_tup (pa_cons (pv 5) (pa_cons (pe_call G_l_odd (hr.mono (by decide)) (by rfl) m_l_odd k_l_odd b_l_odd .nil pass0 (pa_cons (pv 0) pa_nil)) pa_nil))) (pa_cons (pe_tup (pa_cons (pe_call G_l_odd (hr.mono (by decide)) (by rfl) m_l_odd k_l_odd b_l_odd .nil pass0 (pa_cons (pv 0) pa_nil)) (pa_cons (pv 6) pa_nil))) (pa_cons (pe_lst (pa_cons (pv 5) (pa_cons (pv 6) pa_nil))) (pa_cons (pe_tup (pa_cons (pv 5) (pa_cons (pe_op op_cat (pv 6) (pe_lst (pa_cons (pv 5) (pa_cons (pv 5) pa_nil)))) pa_nil))) (pa_cons (pe_tup (pa_cons (pv 5) (pa_cons (pe_op op_cat (pv 6) (pe_lst (pa_cons (pe_call G_l_odd (hr.mono (by decide)) (by rfl) m_l_odd k_l_odd b_l_odd .nil pass0 (pa_cons (pv 0) pa_nil)) pa_nil))) pa_nil))) (pa_cons (pe_tup (pa_cons (pv 5) (pa_cons (pv 6) (pa_cons (pv 6) pa_nil)))) (pa_cons (pe_tup (pa_cons (pv 5) (pa_cons (pv 6) pa_nil))) (pa_cons (pe_tup (pa_cons (pv 5) pa_nil)) pa_nil)))))))))) (pv 4) (fun _ _ => rfl))) (pss_one (ps_ret (pe_op op_cat (pe_op op_cat (pe_slice sl_list (pv 1) po_none (po_some (pv 3))) (pe_lst (pa_cons (pv 8) pa_nil))) (pe_slice sl_list (pv 1) (po_some (pe_op op_add (pv 3) (pe_ifExp (pt_cmpR op_eq (pe_call G_l_draw (hr.mono (by decide)) (by rfl) m_l_draw k_l_draw b_l_draw .nil pass0 (pa_cons (pv 0) (pa_cons pe_int pa_nil))) pe_int (nomark _)) pe_int pe_int))) po_none))))))), ?_⟩
    have big : ∀ n : Nat, n ≤ 1000 → n ≤ sizeLine := fun n hn => sline (by omega)
    have l1 := s0.da.len
    have l2 := s0.len
    have lxm : (xs.map V.str).length = xs.length := List.length_map _
    refine ⟨_, rfl, _, rfl, R, _, rfl, .inl (.inl (.inl s0.er)), _, _, rfl, rfl, D, _, rfl, s0.g.st, by omega, by omega, fun spot H1 sp0 sp1 g1 => ?_⟩
    refine ⟨_, rfl, D, 9, rfl, g1.st, by decide, by decide, fun way H2 w0 w1 g2 => ?_⟩
    have g := g1.trans g2
    refine ⟨_, rfl, _, rfl, D, PL, _, rfl, g.st, sqh pPL (g.old pPL ePL), by omega, by omega, fun i3 v3 H3 hv3 g3 => ⟨_, _, _, rfl, ?_⟩⟩
    obtain ⟨tg, htg, rfl⟩ := getmap hv3
    have ntg : isNm tg = true := nmx tg (List.mem_of_getElem? htg)
    have g := g.trans g3
    -- some names
    refine ⟨_, rfl, D, 4, rfl, g.st, by decide, by decide, fun m H4 m0 m1 g4 => ⟨_, rfl, by omega, by omega, fun S nS => ?_⟩⟩
    have g := g.trans g4
    have pS := g.st.ne_new nS
    refine lc_range (lo := 0) (n := m.toNat) (fun i H' => Go D H4 H' ∧ ∃ ss : List Str, H' S = some (.lst (ss.map V.str)) ∧ ss.length = i ∧ ∀ x ∈ ss, isNm x = true) ⟨(Go.refl g.st).new nS, [], upd_same, rfl, fun x hx => (List.not_mem_nil hx).elim⟩ ?_ ?_
    · rintro i H' hi ⟨g5, ss, eS, ls, ns⟩
      have g05 := g.trans g5
      refine ⟨rfl, _, rfl, _, rfl, D, PL, _, rfl, g5.st, sqh pPL (g05.old pPL ePL), by omega, by omega, fun i6 v6 H6 hv6 g6 => ?_⟩
      obtain ⟨y, hy, rfl⟩ := getmap hv6
      refine ⟨_, g6.old pS eS, slineL (by rw [List.length_map]; omega), (g5.trans g6).mut g.st nS, ss ++ [y], by rw [upd_same, List.map_append]; rfl, by rw [List.length_append, ls]; rfl, fun x hx => ?_⟩
      rcases List.mem_append.mp hx with hx | hx
      · exact ns x hx
      · rw [List.mem_singleton.mp hx]; exact nmx y (List.mem_of_getElem? hy)
    rintro H5 ⟨g5, ss, eS, ls, ns⟩
    have ls3 : ss.length ≤ 3 := by omega
    have g := g.trans g5
    clear g1 g2 g3 g4 g5 hv3 htg
    refine ⟨_, rfl, D, rfl, g.st, fun w1 d1 K1 hd1 a1 r1 => ?_⟩
    have eS := a1.old pS eS
    have g := g.trans a1
    have acc : DaAll K (hid D.p K1) [w1] [d1] := .cons r1 .nil
    refine ⟨_, rfl, _, rfl, D, rfl, g.st, fun w2 d2 K2 hd2 a2 r2 => ?_⟩
    have eS := a2.old pS eS
    have acc := acc.to a2.sm
    have g := g.trans a2
    refine ⟨by show 2 ≤ sizeLine; decide, fun T2 nT2 => ?_⟩
    have gn := (Go.refl g.st).new (o := .tup ([.str tg, w2])) nT2
    have pT2 := g.st.ne_new nT2
    have x2 : Da K (hid D.p (upd K2 T2 (.tup ([.str tg, w2])))) (.ref T2) (.tuple ([.str tg, d2])) := Da.newT (by rw [hid_ne pT2]; exact upd_same) ((show DaAll K (hid D.p K2) ([.str tg, w2]) ([.str tg, d2]) from .cons (.str _) (.cons r2 .nil)).to gn.sm)
    have eS := gn.old pS eS
    have acc := acc.to gn.sm
    have r2 := r2.to gn.sm
    have g := g.trans gn
    generalize upd K2 T2 (.tup ([.str tg, w2])) = J1 at g eS acc r2 x2 ⊢
    have acc := da_snoc acc x2
    refine ⟨_, rfl, D, rfl, g.st, fun w3 d3 K3 hd3 a3 r3 => ?_⟩
    have eS := a3.old pS eS
    have acc := acc.to a3.sm
    have g := g.trans a3
    refine ⟨_, rfl, by show 2 ≤ sizeLine; decide, fun T3 nT3 => ?_⟩
    have gn := (Go.refl g.st).new (o := .tup ([w3, .ref S])) nT3
    have pT3 := g.st.ne_new nT3
    have x3 : Da K (hid D.p (upd K3 T3 (.tup ([w3, .ref S])))) (.ref T3) (.tuple ([d3, .list (ss.map .str)])) := Da.newT (by rw [hid_ne pT3]; exact upd_same) ((show DaAll K (hid D.p K3) ([w3, .ref S]) ([d3, .list (ss.map .str)]) from .cons r3 (.cons (Da.newL (by rw [hid_ne pS]; exact eS) (DaAll.strs ss)) .nil)).to gn.sm)
    have eS := gn.old pS eS
    have acc := acc.to gn.sm
    have r3 := r3.to gn.sm
    have g := g.trans gn
    generalize upd K3 T3 (.tup ([w3, .ref S])) = J2 at g eS acc r3 x3 ⊢
    have acc := da_snoc acc x3
    refine ⟨_, rfl, _, rfl, by show 2 ≤ sizeLine; decide, fun T4 nT4 => ?_⟩
    have gn := (Go.refl g.st).new (o := .lst ([.str tg, .ref S])) nT4
    have pT4 := g.st.ne_new nT4
    have x4 : Da K (hid D.p (upd J2 T4 (.lst ([.str tg, .ref S])))) (.ref T4) (.list ([.str tg, .list (ss.map .str)])) := Da.newL (by rw [hid_ne pT4]; exact upd_same) ((show DaAll K (hid D.p J2) ([.str tg, .ref S]) ([.str tg, .list (ss.map .str)]) from .cons (.str _) (.cons (Da.newL (by rw [hid_ne pS]; exact eS) (DaAll.strs ss)) .nil)).to gn.sm)
    have eS := gn.old pS eS
    have acc := acc.to gn.sm
    have g := g.trans gn
    generalize upd J2 T4 (.lst ([.str tg, .ref S])) = J3 at g eS acc x4 ⊢
    have acc := da_snoc acc x4
    refine ⟨_, rfl, _, rfl, _, rfl, _, rfl, by show 2 ≤ sizeLine; decide, fun L5 nL5 => ?_⟩
    have gn := (Go.refl g.st).new (o := .lst ([.str tg, .str tg])) nL5
    have pL5 := g.st.ne_new nL5
    have e5 : (upd J3 L5 (.lst ([.str tg, .str tg]))) L5 = some (.lst ([.str tg, .str tg])) := upd_same
    have eS := gn.old pS eS
    have acc := acc.to gn.sm
    have g := g.trans gn
    generalize upd J3 L5 (.lst ([.str tg, .str tg])) = J4 at g eS acc e5 ⊢
    refine ⟨S, L5, _, _, rfl, rfl, eS, e5, big _ (by rw [List.length_map]; show ss.length + 2 ≤ 1000; omega), fun C5 nC5 => ?_⟩
    have gn := (Go.refl g.st).new (o := .lst (ss.map V.str ++ [.str tg, .str tg])) nC5
    have pC5 := g.st.ne_new nC5
    have y5 : Da K (hid D.p (upd J4 C5 (.lst (ss.map V.str ++ [.str tg, .str tg])))) (.ref C5) (.list (ss.map .str ++ [.str tg, .str tg])) := Da.newL (by rw [hid_ne pC5]; exact upd_same) ((show DaAll K (hid D.p J4) (ss.map V.str ++ [.str tg, .str tg]) (ss.map .str ++ [.str tg, .str tg]) from (DaAll.strs ss).app (DaAll.strs [tg, tg])).to gn.sm)
    have eS := gn.old pS eS
    have acc := acc.to gn.sm
    have e5 := gn.old pL5 e5
    have g := g.trans gn
    generalize upd J4 C5 (.lst (ss.map V.str ++ [.str tg, .str tg])) = J5 at g eS acc e5 y5 ⊢
    refine ⟨by show 2 ≤ sizeLine; decide, fun T5 nT5 => ?_⟩
    have gn := (Go.refl g.st).new (o := .tup ([.str tg, .ref C5])) nT5
    have pT5 := g.st.ne_new nT5
    have x5 : Da K (hid D.p (upd J5 T5 (.tup ([.str tg, .ref C5])))) (.ref T5) (.tuple ([.str tg, .list (ss.map .str ++ [.str tg, .str tg])])) := Da.newT (by rw [hid_ne pT5]; exact upd_same) ((show DaAll K (hid D.p J5) ([.str tg, .ref C5]) ([.str tg, .list (ss.map .str ++ [.str tg, .str tg])]) from .cons (.str _) (.cons y5 .nil)).to gn.sm)
    have eS := gn.old pS eS
    have acc := acc.to gn.sm
    have y5 := y5.to gn.sm
    have g := g.trans gn
    generalize upd J5 T5 (.tup ([.str tg, .ref C5])) = J6 at g eS acc y5 x5 ⊢
    have acc := da_snoc acc x5
    refine ⟨_, rfl, _, rfl, _, rfl, D, rfl, g.st, fun w6 d6 K6 hd6 a6 r6 => ?_⟩
    have eS := a6.old pS eS
    have acc := acc.to a6.sm
    have g := g.trans a6
    refine ⟨by show 1 ≤ sizeLine; decide, fun L6 nL6 => ?_⟩
    have gn := (Go.refl g.st).new (o := .lst ([w6])) nL6
    have pL6 := g.st.ne_new nL6
    have e6 : (upd K6 L6 (.lst ([w6]))) L6 = some (.lst ([w6])) := upd_same
    have eS := gn.old pS eS
    have acc := acc.to gn.sm
    have r6 := r6.to gn.sm
    have g := g.trans gn
    generalize upd K6 L6 (.lst ([w6])) = J7 at g eS acc r6 e6 ⊢
    refine ⟨S, L6, _, _, rfl, rfl, eS, e6, big _ (by rw [List.length_map]; show ss.length + 1 ≤ 1000; omega), fun C6 nC6 => ?_⟩
    have gn := (Go.refl g.st).new (o := .lst (ss.map V.str ++ [w6])) nC6
    have pC6 := g.st.ne_new nC6
    have y6 : Da K (hid D.p (upd J7 C6 (.lst (ss.map V.str ++ [w6])))) (.ref C6) (.list (ss.map .str ++ [d6])) := Da.newL (by rw [hid_ne pC6]; exact upd_same) ((show DaAll K (hid D.p J7) (ss.map V.str ++ [w6]) (ss.map .str ++ [d6]) from (DaAll.strs ss).app (.cons r6 .nil)).to gn.sm)
    have eS := gn.old pS eS
    have acc := acc.to gn.sm
    have r6 := r6.to gn.sm
    have e6 := gn.old pL6 e6
    have g := g.trans gn
    generalize upd J7 C6 (.lst (ss.map V.str ++ [w6])) = J8 at g eS acc r6 e6 y6 ⊢
    refine ⟨by show 2 ≤ sizeLine; decide, fun T6 nT6 => ?_⟩
    have gn := (Go.refl g.st).new (o := .tup ([.str tg, .ref C6])) nT6
    have pT6 := g.st.ne_new nT6
    have x6 : Da K (hid D.p (upd J8 T6 (.tup ([.str tg, .ref C6])))) (.ref T6) (.tuple ([.str tg, .list (ss.map .str ++ [d6])])) := Da.newT (by rw [hid_ne pT6]; exact upd_same) ((show DaAll K (hid D.p J8) ([.str tg, .ref C6]) ([.str tg, .list (ss.map .str ++ [d6])]) from .cons (.str _) (.cons y6 .nil)).to gn.sm)
    have eS := gn.old pS eS
    have acc := acc.to gn.sm
    have y6 := y6.to gn.sm
    have g := g.trans gn
    generalize upd J8 T6 (.tup ([.str tg, .ref C6])) = J9 at g eS acc y6 x6 ⊢
    have acc := da_snoc acc x6
    refine ⟨_, rfl, _, rfl, _, rfl, by show 3 ≤ sizeLine; decide, fun T7 nT7 => ?_⟩
    have gn := (Go.refl g.st).new (o := .tup ([.str tg, .ref S, .ref S])) nT7
    have pT7 := g.st.ne_new nT7
    have x7 : Da K (hid D.p (upd J9 T7 (.tup ([.str tg, .ref S, .ref S])))) (.ref T7) (.tuple ([.str tg, .list (ss.map .str), .list (ss.map .str)])) := Da.newT (by rw [hid_ne pT7]; exact upd_same) ((show DaAll K (hid D.p J9) ([.str tg, .ref S, .ref S]) ([.str tg, .list (ss.map .str), .list (ss.map .str)]) from .cons (.str _) (.cons (Da.newL (by rw [hid_ne pS]; exact eS) (DaAll.strs ss)) (.cons (Da.newL (by rw [hid_ne pS]; exact eS) (DaAll.strs ss)) .nil))).to gn.sm)
    have eS := gn.old pS eS
    have acc := acc.to gn.sm
    have g := g.trans gn
    generalize upd J9 T7 (.tup ([.str tg, .ref S, .ref S])) = J10 at g eS acc x7 ⊢
    have acc := da_snoc acc x7
    refine ⟨_, rfl, _, rfl, by show 2 ≤ sizeLine; decide, fun T8 nT8 => ?_⟩
    have gn := (Go.refl g.st).new (o := .tup ([.str tg, .ref S])) nT8
    have pT8 := g.st.ne_new nT8
    have x8 : Da K (hid D.p (upd J10 T8 (.tup ([.str tg, .ref S])))) (.ref T8) (.tuple ([.str tg, .list (ss.map .str)])) := Da.newT (by rw [hid_ne pT8]; exact upd_same) ((show DaAll K (hid D.p J10) ([.str tg, .ref S]) ([.str tg, .list (ss.map .str)]) from .cons (.str _) (.cons (Da.newL (by rw [hid_ne pS]; exact eS) (DaAll.strs ss)) .nil)).to gn.sm)
    have eS := gn.old pS eS
    have acc := acc.to gn.sm
    have g := g.trans gn
    generalize upd J10 T8 (.tup ([.str tg, .ref S])) = J11 at g eS acc x8 ⊢
    have acc := da_snoc acc x8
    refine ⟨_, rfl, by show 1 ≤ sizeLine; decide, fun T9 nT9 => ?_⟩
    have gn := (Go.refl g.st).new (o := .tup ([.str tg])) nT9
    have pT9 := g.st.ne_new nT9
    have x9 : Da K (hid D.p (upd J11 T9 (.tup ([.str tg])))) (.ref T9) (.tuple ([.str tg])) := Da.newT (by rw [hid_ne pT9]; exact upd_same) ((show DaAll K (hid D.p J11) ([.str tg]) ([.str tg]) from .cons (.str _) .nil).to gn.sm)
    have eS := gn.old pS eS
    have acc := acc.to gn.sm
    have g := g.trans gn
    generalize upd J11 T9 (.tup ([.str tg])) = J12 at g eS acc x9 ⊢
    have acc := da_snoc acc x9
    refine ⟨by show 9 ≤ sizeLine; decide, fun N nN => ?_⟩
    have gn := (Go.refl g.st).new (o := .lst ([w1, .ref T2, .ref T3, .ref T4, .ref T5, .ref T6, .ref T7, .ref T8, .ref T9])) nN
    have pN := g.st.ne_new nN
    have eN : (upd J12 N (.lst ([w1, .ref T2, .ref T3, .ref T4, .ref T5, .ref T6, .ref T7, .ref T8, .ref T9]))) N = some (.lst ([w1, .ref T2, .ref T3, .ref T4, .ref T5, .ref T6, .ref T7, .ref T8, .ref T9])) := upd_same
    have eS := gn.old pS eS
    have acc := acc.to gn.sm
    have g := g.trans gn
    generalize upd J12 N (.lst ([w1, .ref T2, .ref T3, .ref T4, .ref T5, .ref T6, .ref T7, .ref T8, .ref T9])) = J13 at g eS acc eN ⊢
    have okS : Okd 4 4 600 (.list (ss.map .str)) := (Okd.list (j := 3) (k := 3) (n := 62) (fun e he => by obtain ⟨x, hx, rfl⟩ := List.mem_map.mp he; exact okd_nm (ns x hx) (by decide)) (by rw [List.length_map]; omega)).mono (by decide) (by rw [List.length_map]; omega)
    have okT : Okd 4 4 600 (.str tg) := okd_nm ntg (by decide)
    have ok5 : Okd 4 4 600 (.list (ss.map .str ++ [.str tg, .str tg])) := (Okd.list (j := 3) (k := 3) (n := 62) (fun e he => by
      rcases List.mem_append.mp he with he | he
      · obtain ⟨x, hx, rfl⟩ := List.mem_map.mp he; exact okd_nm (ns x hx) (by decide)
      · exact all_two (okd_nm ntg (by decide)) (okd_nm ntg (by decide)) e he) (by rw [List.length_append, List.length_map]; show ss.length + 2 ≤ 60; omega)).mono (by decide) (by rw [List.length_append, List.length_map]; show 2 + (ss.length + 2) * 64 ≤ 600; omega)
    have ok6 : Okd 4 4 600 (.list (ss.map .str ++ [d6])) := (Okd.list (j := 3) (k := 3) (n := 62) (fun e he => by
      rcases List.mem_append.mp he with he | he
      · obtain ⟨x, hx, rfl⟩ := List.mem_map.mp he; exact okd_nm (ns x hx) (by decide)
      · rw [List.mem_singleton.mp he]; exact okd_odd (j := 1) hd6 (by decide) (by decide)) (by rw [List.length_append, List.length_map]; show ss.length + 1 ≤ 60; omega)).mono (by decide) (by rw [List.length_append, List.length_map]; show 2 + (ss.length + 1) * 64 ≤ 600; omega)
    have pair : ∀ {a b : PyData}, Okd 4 4 600 a → Okd 4 4 600 b → Okd 5 5 2000 (.tuple [a, b]) := fun ha hb => (Okd.tuple (all_two ha hb) (by show 2 ≤ 60; decide)).mono (by decide) (by show 3 + 2 * 602 ≤ 2000; decide)
    have oks : ∀ e ∈ (([d1] : List PyData) ++ [.tuple [.str tg, d2]] ++ [.tuple [d3, .list (ss.map .str)]] ++ [.list [.str tg, .list (ss.map .str)]] ++ [.tuple [.str tg, .list (ss.map .str ++ [.str tg, .str tg])]] ++ [.tuple [.str tg, .list (ss.map .str ++ [d6])]] ++ [.tuple [.str tg, .list (ss.map .str), .list (ss.map .str)]] ++ [.tuple [.str tg, .list (ss.map .str)]] ++ [.tuple [.str tg]]), Okd 5 5 2000 e := by
      refine all_snoc (all_snoc (all_snoc (all_snoc (all_snoc (all_snoc (all_snoc (all_snoc (all_one (okd_odd (j := 3) hd1 (by decide) (by decide))) (pair okT (okd_odd (j := 2) hd2 (by decide) (by decide)))) (pair (okd_odd (j := 2) hd3 (by decide) (by decide)) okS)) ((Okd.list (all_two okT okS) (by show 2 ≤ 60; decide)).mono (by decide) (by show 2 + 2 * 602 ≤ 2000; decide))) (pair okT ok5)) (pair okT ok6)) ((Okd.tuple (all_snoc (all_two okT okS) okS) (by show 3 ≤ 60; decide)).mono (by decide) (by show 3 + 3 * 602 ≤ 2000; decide))) (pair okT okS)) ((Okd.tuple (all_one okT) (by show 1 ≤ 60; decide)).mono (by decide) (by show 3 + 1 * 602 ≤ 2000; decide))
    have rks : ∀ e ∈ (([d1] : List PyData) ++ [.tuple [.str tg, d2]] ++ [.tuple [d3, .list (ss.map .str)]] ++ [.list [.str tg, .list (ss.map .str)]] ++ [.tuple [.str tg, .list (ss.map .str ++ [.str tg, .str tg])]] ++ [.tuple [.str tg, .list (ss.map .str ++ [d6])]] ++ [.tuple [.str tg, .list (ss.map .str), .list (ss.map .str)]] ++ [.tuple [.str tg, .list (ss.map .str)]] ++ [.tuple [.str tg]]), (rowK e).length ≤ 6 := by
      have kS : ∀ m : PyData, (rowK (.tuple [m, .list (ss.map .str)])).length ≤ 6 := fun m => by
        show ((ss.map PyData.str).map strD).length ≤ 6
        rw [List.length_map, List.length_map]; omega
      refine all_snoc (all_snoc (all_snoc (all_snoc (all_snoc (all_snoc (all_snoc (all_snoc (all_one (odds_rowK d1 hd1).1) ((odds_rowK d2 hd2).2 _)) (kS _)) (by show 0 ≤ 6; decide)) ?_) ?_) (by show 0 ≤ 6; decide)) (kS _)) (by show 0 ≤ 6; decide)
      · show ((ss.map PyData.str ++ [PyData.str tg, PyData.str tg]).map strD).length ≤ 6
        rw [List.length_map, List.length_append, List.length_map]; show ss.length + 2 ≤ 6; omega
      · show ((ss.map PyData.str ++ [d6]).map strD).length ≤ 6
        rw [List.length_map, List.length_append, List.length_map]; show ss.length + 1 ≤ 6; omega
    obtain ⟨vn, hvn⟩ : ∃ vn, ([w1, .ref T2, .ref T3, .ref T4, .ref T5, .ref T6, .ref T7, .ref T8, .ref T9] : List V)[way.toNat]? = some vn := ⟨_, List.getElem?_eq_getElem (by show way.toNat < 9; omega)⟩
    obtain ⟨dn, hdn, rn⟩ := acc.at (i := way.toNat) hvn
    have ln := oks dn (List.mem_of_getElem? hdn)
    have rn6 := rks dn (List.mem_of_getElem? hdn)
    refine ⟨_, rfl, N, _, way, vn, rfl, rfl, .inl (.inl eN), atI_of w0 hvn, ?_⟩
    have s := s0.to g
    clear acc oks rks eN eS
    refine ⟨_, rfl, _, rfl, spot, rfl, R, ws, rfl, .inl (.inl s.er), fun q1 n1 => ?_⟩
    have s3 := s.new (o := .lst (cutV ws none (some spot))) n1
    have r3 := rn.to (Go.of s.g.st (same_new (o := .lst (cutV ws none (some spot))) n1)).sm
    refine ⟨_, rfl, by show 1 ≤ sizeLine; decide, fun q2 n2 => ?_⟩
    have s7 := s3.new (o := .lst [vn]) n2
    have r7 := r3.to (Go.of s3.g.st (same_new (o := .lst [vn]) n2)).sm
    have eq1 := kp (u := .lst [vn]) (upd_same (H := J13) (a := q1) (o := .lst (cutV ws none (some spot)))) n2
    have c1 := cutV_length ws none (some spot)
    refine ⟨q1, q2, _, _, rfl, rfl, eq1, upd_same, big _ (by show (cutV ws none (some spot)).length + 1 ≤ 1000; omega), fun q3 n3 => ?_⟩
    have s8 := s7.new (o := .lst (cutV ws none (some spot) ++ [vn])) n3
    have rb := r7.to (Go.of s7.g.st (same_new (o := .lst (cutV ws none (some spot) ++ [vn])) n3)).sm
    have e3 : (upd (upd (upd J13 q1 (.lst (cutV ws none (some spot)))) q2 (.lst [vn])) q3 (.lst (cutV ws none (some spot) ++ [vn]))) q3 = some (.lst (cutV ws none (some spot) ++ [vn])) := upd_same
    have p3 := s7.g.st.ne_new n3
    generalize upd (upd (upd J13 q1 (.lst (cutV ws none (some spot)))) q2 (.lst [vn])) q3 (.lst (cutV ws none (some spot) ++ [vn])) = KC at s8 rb e3 ⊢
    refine ⟨_, rfl, _, rfl, _, rfl, D, 2, rfl, s8.g.st, by decide, by decide, fun bit KD _ _ gbit => ⟨rfl, _, rfl, ite2 (fun _ => ?_) (fun _ => ?_)⟩⟩
    · have s8 := s8.to gbit
      have rb := rb.to gbit.sm
      have e3 := gbit.old p3 e3
      refine ⟨_, _, rfl, rfl, spot + 1, rfl, R, ws, rfl, .inl (.inl s8.er), fun q4 n4 => ?_⟩
      have s9 := s8.new (o := .lst (cutV ws (some (spot + 1)) none)) n4
      have e34 := kp (u := .lst (cutV ws (some (spot + 1)) none)) e3 n4
      refine ⟨q3, q4, _, _, rfl, rfl, e34, upd_same, big _ (by rw [List.length_append]; show (cutV ws none (some spot)).length + 1 + (cutV ws (some (spot + 1)) none).length ≤ 1000; have := cutV_length ws (some (spot + 1)) none; omega), fun q5 n5 => ?_⟩
      obtain ⟨es1, d1', m1, k1⟩ := s9.da.cut none (some spot)
      obtain ⟨es2, d2', m2, k2⟩ := s9.da.cut (some (spot + 1)) none
      have rc := rb.to (Go.of s8.g.st (same_new (o := .lst (cutV ws (some (spot + 1)) none)) n4)).sm
      have rr : DaAll K _ [vn] [dn] := .cons rc .nil
      have csum := cut_sum (vs := ws) sp0
      have k3 := d1'.len
      have k4 := d2'.len
      exact q q5 _ _ dn _ (s9.put n5 ((d1'.app rr).app d2') (fun e he => by
        rcases List.mem_append.mp he with he | he
        · rcases List.mem_append.mp he with he | he
          · exact s9.lv e (m1 e he)
          · rw [List.mem_singleton.mp he]; exact ln
        · exact s9.lv e (m2 e he)) (by rw [List.length_append, List.length_append]; show es1.length + 1 + es2.length ≤ n + 1; omega)) rn6 (fun e he => by
        rcases List.mem_append.mp he with he | he
        · rcases List.mem_append.mp he with he | he
          · exact .inl (m1 e he)
          · exact .inr (List.mem_singleton.mp he)
        · exact .inl (m2 e he))
    · have s8 := s8.to gbit
      have rb := rb.to gbit.sm
      have e3 := gbit.old p3 e3
      refine ⟨_, _, rfl, rfl, spot + 0, rfl, R, ws, rfl, .inl (.inl s8.er), fun q4 n4 => ?_⟩
      have s9 := s8.new (o := .lst (cutV ws (some (spot + 0)) none)) n4
      have e34 := kp (u := .lst (cutV ws (some (spot + 0)) none)) e3 n4
      refine ⟨q3, q4, _, _, rfl, rfl, e34, upd_same, big _ (by rw [List.length_append]; show (cutV ws none (some spot)).length + 1 + (cutV ws (some (spot + 0)) none).length ≤ 1000; have := cutV_length ws (some (spot + 0)) none; omega), fun q5 n5 => ?_⟩
      obtain ⟨es1, d1', m1, k1⟩ := s9.da.cut none (some spot)
      obtain ⟨es2, d2', m2, k2⟩ := s9.da.cut (some (spot + 0)) none
      have rc := rb.to (Go.of s8.g.st (same_new (o := .lst (cutV ws (some (spot + 0)) none)) n4)).sm
      have rr : DaAll K _ [vn] [dn] := .cons rc .nil
      have csum := (show (cutV ws none (some spot)).length + (cutV ws (some (spot + 0)) none).length = ws.length from by rw [Int.add_zero]; exact cut_two (vs := ws) sp0)
      have k3 := d1'.len
      have k4 := d2'.len
      exact q q5 _ _ dn _ (s9.put n5 ((d1'.app rr).app d2') (fun e he => by
        rcases List.mem_append.mp he with he | he
        · rcases List.mem_append.mp he with he | he
          · exact s9.lv e (m1 e he)
          · rw [List.mem_singleton.mp he]; exact ln
        · exact s9.lv e (m2 e he)) (by rw [List.length_append, List.length_append]; show es1.length + 1 + es2.length ≤ n + 1; omega)) rn6 (fun e he => by
        rcases List.mem_append.mp he with he | he
        · rcases List.mem_append.mp he with he | he
          · exact .inl (m1 e he)
          · exact .inr (List.mem_singleton.mp he)
        · exact .inl (m2 e he))
end
end Th
namespace Th
open PySem PySem.Spec PyProof.Rows L2
abbrev s_l_is_name : Stmt := topS 40
theorem sc_l_is_name : FnScope ["_law_x", "_law_sign"] ["_law_x"] (defScope s_l_is_name) := ⟨rfl, rfl, rfl, by decide +kernel, rfl, by decide +kernel, by decide +kernel⟩

section
variable {P : Program} {w : World} {K : PySem.W.Frag} {mg : Str → Option Value} {base : Heap} {CB CT : Addr}
theorem has_l_is_name (n : Nat) (Z : Zs mg) (A : At K mg "_law_is_name" s_l_is_name ["_law_x"]) (h_l_letters : Has P w K mg base "_law_letters" s_l_letters 1 [] (spLetters)) : Has P w K mg base "_law_is_name" s_l_is_name 2 ["_law_x"] (spJ K n nmD) := by
  obtain ⟨f, fd, F, mg1, bd⟩ := A
  obtain ⟨f_l_letters, fd_l_letters, G_l_letters, m_l_letters, k_l_letters, b_l_letters, F_l_letters⟩ := h_l_letters
  refine ⟨f, fd, ?_, mg1, F.kp, bd, F⟩
  refine F.ok sc_l_is_name (fun vs H Q E h => ?_) (fun cdv A outer s H vs Q E hr h => ?_)
  · obtain ⟨v, d, rfl, _⟩ := h
    rfl
  · obtain ⟨v, d, rfl, r, lv, q⟩ := h
    refine ⟨_, (pss_one (ps_ret (pe_and (pe_callB call_isi (by rfl) Z.isinstance_ (by decide +kernel) (pa_cons (pv 0) (pa_cons (pe_bltn (v := .ty "str") (by rfl) Z.str_ (by decide +kernel) rfl) pa_nil))) (pe_and (pe_cmpR op_in_seq (pe_callB call_len_str (by rfl) Z.len_ (by decide +kernel) (pa_cons (pv 0) pa_nil)) (pe_tup (pa_cons pe_int (pa_cons pe_int (pa_cons pe_int (pa_cons pe_int (pa_cons pe_int (pa_cons pe_int pa_nil))))))) (by rfl)) (pe_one (pe_callB (cr_all rfl) (by rfl) Z.all_ (by decide +kernel) (pa_cons (pe_lc (own := [("_law_sign", 1)]) (g := gName 1) (by rfl) sc_l_is_name.nd (pi_str (pv 0)) (blkOk_by (own := [("_law_sign", 1)]) (N := ["_law_x", "_law_sign"]) (sc := defScope s_l_is_name) (by decide +kernel)) (fun _ _ _ _ _ => pg_name (i := 1) sc_l_is_name.nd rfl (Or.inl rfl)) (fun _ _ _ _ _ => pts_nil) (fun _ _ _ _ _ => (pe_cmpR op_in_sign (pv 1) (pe_call0 G_l_letters (hr.mono (by decide)) (by rfl) m_l_letters k_l_letters b_l_letters .nil pass0) (by rfl)))) pa_nil))))))), ?_⟩
    refine ⟨_, rfl, v, _, _, _, _, rfl, .ty "str", r.ty, kit_ty (kit_str d r.nodict), _, rfl, ?_⟩
    cases d with
    | str x =>
      have hv : v = .str x := by
        cases r
        rfl
      subst hv
      have hx : x.length ≤ 100000 := by
        cases n <;> exact lv.1
      refine iteT ?_
      refine ⟨_, rfl, _, rfl, sline hx, (by show 6 ≤ sizeLine; decide), fun u nu => ?_⟩
      refine ⟨u, _, rfl, .inr (.inl (.inl upd_same)), rfl, rfl, _, rfl, ?_⟩
      have ein : inV (.int (x.length : Int)) [V.int 1, .int 2, .int 3, .int 4, .int 5, .int 6] = (decide (1 ≤ x.length) && decide (x.length ≤ 6)) := by
        unfold inV
        rw [Bool.eq_iff_iff]
        simp only [List.any_cons, List.any_nil, Bool.or_false, Bool.or_eq_true, Bool.and_eq_true, decide_eq_true_eq, eqV, beq_iff_eq]
        omega
      have s1 := same_new (o := .tup [V.int 1, .int 2, .int 3, .int 4, .int 5, .int 6]) nu
      rw [ein, if_neg Bool.false_ne_true]
      refine ite2 (fun h1 => ?_) (fun h1 => ?_)
      · refine ⟨_, rfl, x, rfl, fun L nL => ?_⟩
        have s2' := s1.trans (same_new (o := .lst []) nL)
        refine lc_it (walk_str (z := x)) (fun i H2 => Same H H2 ∧ H2 L = some (.lst (((cs x).take i).map fun c => V.bl (decide (c ∈ cs abc))))) ⟨s2', upd_same⟩ (fun _ _ _ _ => trivial) ?_ ?_
        · rintro i y H2 H3 hi ⟨s2, e2⟩ ⟨rfl, c, hc, rfl⟩
          have hc' : (cs x)[i]? = some c := by
            unfold cs
            rw [Array.getElem?_toList]
            exact hc
          have hl := lt_of_get hc'
          rw [← cs_len] at hl
          refine ⟨rfl, _, rfl, rfl, c, abc, rfl, rfl, _, e2, slineL ?_, ?_⟩
          · rw [List.length_map, List.length_take]
            omega
          · refine ⟨same_mut s2 (s1.free nL), ?_⟩
            rw [upd_same, take_succ_map hc']
            rfl
        · rintro H2 ⟨s2, e2⟩
          have e3 : (cs x).take x.cps.size = cs x := List.take_of_length_le (by rw [← cs_len]; exact Nat.le_refl _)
          rw [e3] at e2
          refine ⟨L, (cs x).map fun c => decide (c ∈ cs abc), rfl, .inl (.inl (by rw [e2, List.map_map]; rfl)), ?_⟩
          have e4 : ((cs x).map fun c => decide (c ∈ cs abc)).all id = isNm x := by
            unfold isNm
            rw [h1, List.all_map]
            rfl
          rw [e4]
          exact q H2 s2
      · have e4 : isNm x = false := by
          unfold isNm
          cases z : (decide (1 ≤ x.length) && decide (x.length ≤ 6)) with
          | true => exact absurd z h1
          | false => rfl
        have q2 := q _ s1
        show Q (.bl false) _
        rw [show nmD (.str x) = false from e4] at q2
        exact q2
    | _ => exact iteF (q H (Same.refl H))
end
end Th
namespace Th
open PySem PySem.Spec PyProof.Rows L2
abbrev s_p_is_name : Stmt := topS 14
theorem sc_p_is_name : FnScope ["value", "sign"] ["value"] (defScope s_p_is_name) := ⟨rfl, rfl, rfl, by decide +kernel, rfl, by decide +kernel, by decide +kernel⟩

section
variable {P : Program} {w : World} {K : PySem.W.Frag} {mg : Str → Option Value} {base : Heap} {CB CT : Addr}
theorem has_p_is_name (n : Nat) (Z : Zs mg) (gL : ∃ t, mg "_LETTERS" = some (.str abc t)) (gM : ∃ t, mg "_MOST_LETTERS" = some (.int 6 t)) (A : At K mg "is_name" s_p_is_name ["value"]) : Has P w K mg base "is_name" s_p_is_name 1 ["value"] (spJ K n nmD) := by
  obtain ⟨f, fd, F, mg1, bd⟩ := A
  obtain ⟨tL, g_LETTERS⟩ := gL
  obtain ⟨tM, g_MOST_LETTERS⟩ := gM
  refine ⟨f, fd, ?_, mg1, F.kp, bd, F⟩
  refine F.ok sc_p_is_name (fun vs H Q E h => ?_) (fun cdv A outer s H vs Q E hr h => ?_)
  · obtain ⟨v, d, rfl, _⟩ := h
    rfl
  · obtain ⟨v, d, rfl, r, lv, q⟩ := h
    refine ⟨_, (pss_one (ps_ret (pe_and (pe_callB call_isi (by rfl) Z.isinstance_ (by decide +kernel) (pa_cons (pv 0) (pa_cons (pe_bltn (v := .ty "str") (by rfl) Z.str_ (by decide +kernel) rfl) pa_nil))) (pe_and (pe_chain op_le op_le pe_int (pe_callB call_len_str (by rfl) Z.len_ (by decide +kernel) (pa_cons (pv 0) pa_nil)) (pe_glob (v := .int 6) (by rfl) g_MOST_LETTERS ⟨_, rfl⟩)) (pe_one (pe_callB (cr_all rfl) (by rfl) Z.all_ (by decide +kernel) (pa_cons (pe_lc (own := [("sign", 1)]) (g := gName 1) (by rfl) sc_p_is_name.nd (pi_str (pv 0)) (blkOk_by (own := [("sign", 1)]) (N := ["value", "sign"]) (sc := defScope s_p_is_name) (by decide +kernel)) (fun _ _ _ _ _ => pg_name (i := 1) sc_p_is_name.nd rfl (Or.inl rfl)) (fun _ _ _ _ _ => pts_nil) (fun _ _ _ _ _ => (pe_cmpR op_in_sign (pv 1) (pe_glob (v := .str abc) (by rfl) g_LETTERS ⟨_, rfl⟩) (by rfl)))) pa_nil))))))), ?_⟩
    refine ⟨_, rfl, v, _, _, _, _, rfl, .ty "str", r.ty, kit_ty (kit_str d r.nodict), _, rfl, ?_⟩
    cases d with
    | str x =>
      have hv : v = .str x := by
        cases r
        rfl
      subst hv
      have hx : x.length ≤ 100000 := by
        cases n <;> exact lv.1
      refine iteT ?_
      refine ⟨_, rfl, _, rfl, sline hx, _, _, rfl, rfl, _, rfl, ?_⟩
      have fin : ∀ b : Bool, b = isNm x → Q (.bl b) H := fun b e => by
        rw [e]
        exact q H (Same.refl H)
      refine ite2 (fun h1 => ?_) (fun h1 => ⟨_, rfl, iteF (fin _ ?_)⟩)
      · refine ⟨_, _, rfl, rfl, _, rfl, ?_⟩
        refine ite2 (fun h2 => ?_) (fun h2 => fin _ ?_)
        · refine ⟨_, rfl, x, rfl, fun L nL => ?_⟩
          refine lc_it (walk_str (z := x)) (fun i H2 => Same H H2 ∧ H2 L = some (.lst (((cs x).take i).map fun c => V.bl (decide (c ∈ cs abc))))) ⟨same_new nL, upd_same⟩ (fun _ _ _ _ => trivial) ?_ ?_
          · rintro i y H2 H3 hi ⟨s2, e2⟩ ⟨rfl, c, hc, rfl⟩
            have hc' : (cs x)[i]? = some c := by
              unfold cs
              rw [Array.getElem?_toList]
              exact hc
            have hl := lt_of_get hc'
            rw [← cs_len] at hl
            refine ⟨rfl, _, rfl, c, abc, rfl, rfl, _, e2, slineL ?_, ?_⟩
            · rw [List.length_map, List.length_take]
              omega
            · refine ⟨same_mut s2 nL, ?_⟩
              rw [upd_same, take_succ_map hc']
              rfl
          · rintro H2 ⟨s2, e2⟩
            have e3 : (cs x).take x.cps.size = cs x := List.take_of_length_le (by rw [← cs_len]; exact Nat.le_refl _)
            rw [e3] at e2
            refine ⟨L, (cs x).map fun c => decide (c ∈ cs abc), rfl, .inl (.inl (by rw [e2, List.map_map]; rfl)), ?_⟩
            have e4 : ((cs x).map fun c => decide (c ∈ cs abc)).all id = isNm x := by
              unfold isNm
              have a1 : decide (1 ≤ x.length) = true := decide_eq_true (by have := of_decide_eq_true h1; omega)
              have a2 : decide (x.length ≤ 6) = true := decide_eq_true (by have := of_decide_eq_true h2; omega)
              rw [a1, a2, List.all_map]
              rfl
            rw [e4]
            exact q H2 s2
        · have a2 : ¬ x.length ≤ 6 := fun z => h2 (decide_eq_true (by omega))
          unfold isNm
          rw [decide_eq_false a2, Bool.and_false, Bool.false_and]
      · have a1 : ¬ 1 ≤ x.length := fun z => h1 (decide_eq_true (by omega))
        unfold isNm
        rw [decide_eq_false a1, Bool.false_and, Bool.false_and]
    | _ => exact iteF (q H (Same.refl H))
end
end Th
namespace Th
open PySem PySem.Spec PyProof.Rows L2
abbrev s_p_is_listed : Stmt := topS 18
theorem sc_p_is_listed : FnScope ["value"] ["value"] (defScope s_p_is_listed) := ⟨rfl, rfl, rfl, by decide +kernel, rfl, by decide +kernel, by decide +kernel⟩
/-- whether a datum is a list or a tuple -/
def spSeqQ (K : PySem.W.Frag) : Sp := fun vs H Q _ => ∃ (v : V) (d : PyData), vs = [v] ∧ Da K H v d ∧ ∀ H', Same H H' → Q (.bl (decide (tyD d = "list" ∨ tyD d = "tuple"))) H'
section
variable {P : Program} {w : World} {K : PySem.W.Frag} {mg : Str → Option Value} {base : Heap} {CB CT : Addr}
theorem has_p_is_listed (Z : Zs mg) (A : At K mg "is_listed" s_p_is_listed ["value"]) : Has P w K mg base "is_listed" s_p_is_listed 1 ["value"] (spSeqQ K) := by
  obtain ⟨f, fd, F, mg1, bd⟩ := A
  refine ⟨f, fd, ?_, mg1, F.kp, bd, F⟩
  refine F.ok sc_p_is_listed (fun vs H Q E h => ?_) (fun cdv A outer s H vs Q E hr h => ?_)
  · obtain ⟨v, d, rfl, _⟩ := h
    rfl
  · obtain ⟨v, d, rfl, rv, q⟩ := h
    refine ⟨_, (pss_one (ps_ret (pe_callB (show CallR _ (.builtin "isinstance") (rIsiT K) from call_isiT) (by rfl) Z.isinstance_ (by decide +kernel) (pa_cons (pv 0) (pa_cons (pe_tup (pa_cons (pe_bltn (v := .ty "list") (by rfl) Z.list_ (by decide +kernel) rfl) (pa_cons (pe_bltn (v := .ty "tuple") (by rfl) Z.tuple_ (by decide +kernel) rfl) pa_nil))) pa_nil))))), ?_⟩
    exact ⟨_, rfl, (by show 2 ≤ sizeLine; decide), fun t nt => ⟨v, t, _, _, _, _, rfl, upd_same, .cons (.ty _) (.cons (.ty _) .nil), ty_same (same_new nt) rv.ty, kit_lt d rv.nodict, q _ (same_new nt)⟩⟩
end
end Th
namespace Th
open PySem PySem.Spec PyProof.Rows L2
abbrev s_p_are_names : Stmt := topS 15
theorem sc_p_are_names : FnScope ["values", "value"] ["values"] (defScope s_p_are_names) := ⟨rfl, rfl, rfl, by decide +kernel, rfl, by decide +kernel, by decide +kernel⟩
/-- whether all items of a tuple are names -/
def spNmsT (K : PySem.W.Frag) : Sp := fun vs H Q _ => ∃ (a : Addr) (xs : List V) (ds : List PyData), vs = [.ref a] ∧ SqT K H a xs ∧ DaAll K H xs ds ∧ ds.length ≤ 1000 ∧ (∀ d ∈ ds, Lv 5 d) ∧ ∀ H', Same H H' → Q (.bl (ds.all nmD)) H'
theorem all_take {f : PyData → Bool} (l : List PyData) : (l.map f).all id = l.all f := by
  rw [List.all_map]
  rfl
/-- the same of a list -/
def spNmsA (K : PySem.W.Frag) : Sp := fun vs H Q _ => ∃ (a : Addr) (xs : List V) (ds : List PyData), vs = [.ref a] ∧ (SqL K H a xs ∨ SqT K H a xs) ∧ DaAll K H xs ds ∧ ds.length ≤ 1000 ∧ (∀ d ∈ ds, Lv 5 d) ∧ ∀ H', Same H H' → Q (.bl (ds.all nmD)) H'
theorem wk_p_are_names {P : Program} {w : World} {K : PySem.W.Frag} {mg : Str → Option Value} {base : Heap} (h : Has P w K mg base "are_names" s_p_are_names 2 ["values"] (spNmsA K)) : Has P w K mg base "are_names" s_p_are_names 2 ["values"] (spNmsT K) := by
  obtain ⟨f, fd, G, r⟩ := h
  exact ⟨f, fd, G.imp fun vs H Q E z => by
    obtain ⟨a, xs, ds, e, s, r⟩ := z
    exact ⟨a, xs, ds, e, .inr s, r⟩, r⟩
section
variable {P : Program} {w : World} {K : PySem.W.Frag} {mg : Str → Option Value} {base : Heap} {CB CT : Addr}
theorem has_p_are_names (Z : Zs mg) (A : At K mg "are_names" s_p_are_names ["values"]) (h_p_is_name : Has P w K mg base "is_name" s_p_is_name 1 ["value"] (spJ K 5 nmD)) : Has P w K mg base "are_names" s_p_are_names 2 ["values"] (spNmsA K) := by
  obtain ⟨f, fd, F, mg1, bd⟩ := A
  obtain ⟨f_p_is_name, fd_p_is_name, G_p_is_name, m_p_is_name, k_p_is_name, b_p_is_name, F_p_is_name⟩ := h_p_is_name
  refine ⟨f, fd, ?_, mg1, F.kp, bd, F⟩
  refine F.ok sc_p_are_names (fun vs H Q E h => ?_) (fun cdv A outer s H vs Q E hr h => ?_)
  · obtain ⟨a, xs, ds, rfl, _⟩ := h
    rfl
  · obtain ⟨a, xs, ds, rfl, hS, r, hl, lv, q⟩ := h
    refine ⟨_, (pss_one (ps_ret (pe_callB (cr_all rfl) (by rfl) Z.all_ (by decide +kernel) (pa_cons (pe_lc (own := [("value", 1)]) (g := gName 1) (by rfl) sc_p_are_names.nd (pi_LT (pv 0)) (blkOk_by (own := [("value", 1)]) (N := ["values", "value"]) (sc := defScope s_p_are_names) (by decide +kernel)) (fun _ _ _ _ _ => pg_name (i := 1) sc_p_are_names.nd rfl (Or.inl rfl)) (fun _ _ _ _ _ => pts_nil) (fun _ _ _ _ _ => (pe_call G_p_is_name (hr.mono (by decide)) (by rfl) m_p_is_name k_p_is_name b_p_is_name .nil pass0 (pa_cons (pv 1) pa_nil)))) pa_nil)))), ?_⟩
    have hlen := r.len
    rcases hS with hS | hS
    · refine ⟨_, rfl, a, xs, rfl, .inl ⟨hS, fun L nL => ?_⟩⟩
      refine lc_list (K := K) (a := a) (xs := xs) (fun i H2 => Same H H2 ∧ H2 L = some (.lst ((ds.take i).map fun d => V.bl (nmD d)))) ⟨same_new nL, upd_same⟩ (fun i H2 _ z => z.1.seq hS) ?_ ?_
      · rintro i v H2 hi ⟨s2, e2⟩
        obtain ⟨d, hd, rd⟩ := r.at hi
        refine ⟨rfl, _, rfl, v, d, rfl, rd.to s2, lv d (List.mem_of_getElem? hd), fun H3 s3 => ?_⟩
        refine ⟨_, s3 _ _ e2, slineL (by rw [List.length_map, List.length_take]; omega), same_mut (s2.trans s3) nL, ?_⟩
        rw [upd_same, take_succ_map hd]
      · rintro H2 ⟨s2, e2⟩
        rw [hlen, List.take_length] at e2
        refine ⟨L, ds.map nmD, rfl, .inl (.inl (by rw [e2, List.map_map]; rfl)), ?_⟩
        rw [all_take]
        exact q H2 s2
    · refine ⟨_, rfl, a, xs, rfl, .inr ⟨hS, fun L nL => ?_⟩⟩
      refine lc_tup (K := K) (a := a) (xs := xs) (fun i H2 => Same H H2 ∧ H2 L = some (.lst ((ds.take i).map fun d => V.bl (nmD d)))) ⟨same_new nL, upd_same⟩ (fun i H2 _ z => same_t z.1 hS) ?_ ?_
      · rintro i v H2 hi ⟨s2, e2⟩
        obtain ⟨d, hd, rd⟩ := r.at hi
        refine ⟨rfl, _, rfl, v, d, rfl, rd.to s2, lv d (List.mem_of_getElem? hd), fun H3 s3 => ?_⟩
        refine ⟨_, s3 _ _ e2, slineL (by rw [List.length_map, List.length_take]; omega), same_mut (s2.trans s3) nL, ?_⟩
        rw [upd_same, take_succ_map hd]
      · rintro H2 ⟨s2, e2⟩
        rw [hlen, List.take_length] at e2
        refine ⟨L, ds.map nmD, rfl, .inl (.inl (by rw [e2, List.map_map]; rfl)), ?_⟩
        rw [all_take]
        exact q H2 s2
end
end Th
namespace Th
open PySem PySem.Spec PyProof.Rows L2
abbrev s_p_is_holding : Stmt := topS 25
theorem sc_p_is_holding : FnScope ["value"] ["value"] (defScope s_p_is_holding) := ⟨rfl, rfl, rfl, by decide +kernel, rfl, by decide +kernel, by decide +kernel⟩
theorem row_len {ds : List PyData} (h : ds.length ≠ 2) : rowD (.tuple ds) = false := by
  cases ds with
  | nil => rfl
  | cons a r =>
    cases r with
    | nil => rfl
    | cons b r =>
      cases r with
      | nil => exact absurd rfl h
      | cons _ _ => rfl
theorem once_eq : ∀ (xs acc : List Str), (once acc xs).length = acc.length + xs.length → (∀ x ∈ xs, x ∉ acc) ∧ xs.Nodup
  | [], acc, _ => ⟨fun x hx => (List.not_mem_nil hx).elim, List.nodup_nil⟩
  | x :: r, acc, h => by
    unfold once at h
    rw [List.length_cons] at h
    by_cases hx : x ∈ acc
    · rw [if_pos hx] at h
      have := once_length r acc
      omega
    · rw [if_neg hx] at h
      obtain ⟨a, b⟩ := once_eq r (x :: acc) (by rw [List.length_cons]; omega)
      refine ⟨fun y hy => ?_, List.nodup_cons.mpr ⟨fun m => a x m List.mem_cons_self, b⟩⟩
      rcases List.mem_cons.mp hy with e | hy
      · rw [e]; exact hx
      · exact fun m => a y hy (List.mem_cons_of_mem _ m)
theorem once_iff {xs : List Str} : (once [] xs).length = xs.length ↔ xs.Nodup :=
  ⟨fun h => (once_eq xs [] (by rw [h, List.length_nil, Nat.zero_add])).2, fun h => (once_perm h).length_eq⟩
theorem nms_strsD {d : PyData} {ds : List PyData} (h : itemsF d = some ds) : nmsD d = (ds.all nmD && decide ((ds.map strD).Nodup)) := by
  unfold nmsD
  rw [h]
section
variable {P : Program} {w : World} {K : PySem.W.Frag} {mg : Str → Option Value} {base : Heap} {CB CT : Addr}
theorem has_p_is_holding (Z : Zs mg) (A : At K mg "_is_holding" s_p_is_holding ["value"]) (h_p_is_name : Has P w K mg base "is_name" s_p_is_name 1 ["value"] (spJ K 5 nmD)) (h_p_is_listed : Has P w K mg base "is_listed" s_p_is_listed 1 ["value"] (spSeqQ K)) (h_p_are_names : Has P w K mg base "are_names" s_p_are_names 2 ["values"] (spNmsA K)) : Has P w K mg base "_is_holding" s_p_is_holding 3 ["value"] (spJ K 5 rowD) := by
  obtain ⟨f, fd, F, mg1, bd⟩ := A
  obtain ⟨f_p_is_name, fd_p_is_name, G_p_is_name, m_p_is_name, k_p_is_name, b_p_is_name, F_p_is_name⟩ := h_p_is_name
  obtain ⟨f_p_is_listed, fd_p_is_listed, G_p_is_listed, m_p_is_listed, k_p_is_listed, b_p_is_listed, F_p_is_listed⟩ := h_p_is_listed
  obtain ⟨f_p_are_names, fd_p_are_names, G_p_are_names, m_p_are_names, k_p_are_names, b_p_are_names, F_p_are_names⟩ := h_p_are_names
  refine ⟨f, fd, ?_, mg1, F.kp, bd, F⟩
  refine F.ok sc_p_is_holding (fun vs H Q E h => ?_) (fun cdv A outer s H vs Q E hr h => ?_)
  · obtain ⟨v, d, rfl, _⟩ := h
    rfl
  · obtain ⟨v, d, rfl, r, lv, q⟩ := h
    have nd := r.nodict
    refine ⟨_, (pss_cons (ps_if (PW.pt (pw_or (pt_not (pt_val (pe_callB call_isi (by rfl) Z.isinstance_ (by decide +kernel) (pa_cons (pv 0) (pa_cons (pe_bltn (v := .ty "tuple") (by rfl) Z.tuple_ (by decide +kernel) rfl) pa_nil))))) (pw_or (pt_cmpR op_ne (pe_callB call_len_seq (by rfl) Z.len_ (by decide +kernel) (pa_cons (pv 0) pa_nil)) pe_int (nomark _)) (pw_or (pt_not (pt_val (pe_call G_p_is_name (hr.mono (by decide)) (by rfl) m_p_is_name k_p_is_name b_p_is_name .nil pass0 (pa_cons (pe_ix ix_tup (pv 0) pe_int (fun _ _ => rfl)) pa_nil)))) (pw_or1 (pt_not (pt_val (pe_call G_p_is_listed (hr.mono (by decide)) (by rfl) m_p_is_listed k_p_is_listed b_p_is_listed .nil pass0 (pa_cons (pe_ix ix_tup (pv 0) pe_int (fun _ _ => rfl)) pa_nil))))))))) (pss_one (ps_ret pe_bl)) pss_nil) (pss_one (ps_ret (pe_and (pe_call G_p_are_names (hr.mono (by decide)) (by rfl) m_p_are_names k_p_are_names b_p_are_names .nil pass0 (pa_cons (pe_ix ix_tup (pv 0) pe_int (fun _ _ => rfl)) pa_nil)) (pe_one (pe_cmpR op_eq (pe_callB call_lenSetS (by rfl) Z.len_ (by decide +kernel) (pa_cons (pe_callTy (cr_setS rfl) (by rfl) Z.set_ (by decide +kernel) (pa_cons (pe_ix ix_tup (pv 0) pe_int (fun _ _ => rfl)) pa_nil)) pa_nil)) (pe_callB call_len_seq (by rfl) Z.len_ (by decide +kernel) (pa_cons (pe_ix ix_tup (pv 0) pe_int (fun _ _ => rfl)) pa_nil)) (nomark _))))))), ?_⟩
    refine ⟨_, rfl, v, _, _, _, _, rfl, .ty "tuple", r.ty, kit_ty (kit_tuple d nd), _, rfl, ?_⟩
    cases d with
    | tuple ds =>
      cases r with
      | tup hs ht ra =>
        rename_i a xs
        have hl := ra.len
        refine iteF ?_
        refine ⟨_, rfl, a, xs, rfl, .inr hs, rfl, _, rfl, ?_⟩
        refine ite2 (fun h2 => ?_) (fun h2 => ?_)
        · have n2 : ds.length ≠ 2 := fun z => by rw [hl, z] at h2; cases h2
          refine iteT ?_
          have q1 := q H (Same.refl H)
          rw [row_len n2] at q1
          exact q1
        · have z : ds.length = 2 := Classical.byContradiction fun w => h2 (by rw [hl]; have : ¬ V.int ((ds.length : Nat) : Int) = V.int 2 := fun e => w (by have := V.int.inj e; omega); rw [decide_eq_false this]; rfl)
          obtain ⟨m, f0, e⟩ : ∃ m f0, ds = [m, f0] := by
            cases ds with
            | nil => cases z
            | cons m r =>
              cases r with
              | nil => cases z
              | cons f0 r =>
                cases r with
                | nil => exact ⟨m, f0, rfl⟩
                | cons _ _ => rw [List.length_cons, List.length_cons, List.length_cons] at z; omega
          subst e
          obtain ⟨v0, hv0, r0⟩ := ra.at' (i := 0) (d := m) rfl
          obtain ⟨v1, hv1, r1⟩ := ra.at' (i := 1) (d := f0) rfl
          refine ⟨_, rfl, a, xs, 0, v0, rfl, rfl, hs, atI_of (by decide) hv0, v0, m, rfl, r0, (lv_in lv List.mem_cons_self).up, fun H1 s1 => ⟨_, rfl, ?_⟩⟩
          have no : ∀ H2, Same H H2 → nmD m = false → Q (.bl false) H2 := fun H2 s2 hm => by
            have q1 := q H2 s2
            rw [show rowD (.tuple [m, f0]) = (nmD m && nmsD f0) from rfl, hm] at q1
            exact q1
          have no2 : ∀ H2, Same H H2 → nmsD f0 = false → Q (.bl false) H2 := fun H2 s2 hm => by
            have q1 := q H2 s2
            rw [show rowD (.tuple [m, f0]) = (nmD m && nmsD f0) from rfl, hm, Bool.and_false] at q1
            exact q1
          cases hm : nmD m with
          | false => exact iteT (iteT (no H1 s1 hm))
          | true =>
            refine iteF ?_
            refine ⟨_, rfl, a, xs, 1, v1, rfl, rfl, same_t s1 hs, atI_of (by decide) hv1, v1, f0, rfl, r1.to s1, fun H2 s2 => ⟨_, rfl, ?_⟩⟩
            have s12 := s1.trans s2
            by_cases hq : tyD f0 = "list" ∨ tyD f0 = "tuple"
            · rw [decide_eq_true hq]
              refine iteF ?_
              obtain ⟨b, ws, es, rfl, hb, al, hi⟩ := seqF (r1.to s12) hq
              have lvf : Lv 4 f0 := lv_in lv (List.mem_cons_of_mem _ List.mem_cons_self)
              have lve : es.length ≤ 60 ∧ ∀ x ∈ es, Lv 3 x := by
                cases f0 with
                | list _ => cases hi; exact ⟨lvf.1, lvf.2⟩
                | tuple _ => cases hi; exact ⟨lvf.1, lvf.2⟩
                | _ => cases hi
              refine ⟨_, rfl, a, xs, 1, _, rfl, rfl, same_t s12 hs, atI_of (by decide) hv1, b, ws, es, rfl, hb, al, by omega, fun e he => (lve.2 e he).up.up, fun H3 s3 => ⟨_, rfl, ?_⟩⟩
              have hd := nms_strsD hi
              cases hn : es.all nmD with
              | false =>
                rw [hn, Bool.false_and] at hd
                exact iteF (no2 H3 (s12.trans s3) hd)
              | true =>
                refine iteT ?_
                rw [hn, Bool.true_and] at hd
                have ez := nms_strs hn
                have al3 := al.to s3
                rw [ez] at al3
                have exs := al3.isStrs
                generalize es.map strD = zs at exs hd
                subst exs
                have lz : zs.length ≤ 60 := by have := al.len; rw [List.length_map] at this; omega
                have hb3 := sq_any s3 hb
                refine ⟨_, rfl, a, xs, 1, _, rfl, rfl, same_t (s12.trans s3) hs, atI_of (by decide) hv1, b, zs, rfl, hb3, scan_small (by omega), fun p np => ⟨p, _, rfl, upd_same, ?_⟩⟩
                have s4 := same_new (o := SetS P w p (once [] zs)) np
                refine ⟨_, rfl, a, xs, 1, _, rfl, rfl, same_t ((s12.trans s3).trans s4) hs, atI_of (by decide) hv1, b, _, rfl, sq_any s4 hb3, rfl, ?_⟩
                have q1 := q _ ((s12.trans s3).trans s4)
                rw [show rowD (.tuple [m, f0]) = (nmD m && nmsD f0) from rfl, hm, hd, Bool.true_and] at q1
                have e : decide (V.int (((once [] zs).length : Nat) : Int) = V.int (((zs.map V.str).length : Nat) : Int)) = decide zs.Nodup := by
                  rw [Bool.eq_iff_iff, decide_eq_true_eq, decide_eq_true_eq, ← once_iff, List.length_map]
                  exact ⟨fun z => by have := V.int.inj z; omega, fun z => by rw [z]⟩
                rw [e]
                exact q1
            · rw [decide_eq_false hq]
              refine iteT (no2 H2 s12 ?_)
              unfold nmsD
              rw [noseqF hq]
    | _ => exact iteT (iteT (q H (Same.refl H)))
end
end Th
namespace Th
open PySem PySem.Spec PyProof.Rows L2
abbrev s_l_is_row : Stmt := topS 43
theorem sc_l_is_row : FnScope ["_law_x", "_law_some", "_law_tag", "_law_k"] ["_law_x"] (defScope s_l_is_row) := ⟨rfl, rfl, rfl, by decide +kernel, rfl, by decide +kernel, by decide +kernel⟩
theorem nodup_range {zs : List Str} : ((List.range zs.length).map fun k => !decide (zs.getD k Str.empty ∈ zs.take k)).all id = decide zs.Nodup := by
  rw [Bool.eq_iff_iff, decide_eq_true_eq, List.all_eq_true]
  refine ⟨fun h => nodup_of_take' fun j y hj => ?_, fun h b hb => ?_⟩
  · have := h _ (List.mem_map.mpr ⟨j, List.mem_range.mpr (lt_of_get hj), rfl⟩)
    rw [List.getD_eq_getElem?_getD, hj] at this
    simpa using this
  · obtain ⟨j, hj, rfl⟩ := List.mem_map.mp hb
    have hj := List.mem_range.mp hj
    have e : zs[j]? = some zs[j] := List.getElem?_eq_getElem hj
    rw [List.getD_eq_getElem?_getD, e]
    show (!decide (zs[j] ∈ zs.take j)) = true
    rw [decide_eq_false, Bool.not_false]
    intro hm
    obtain ⟨k, hk, ek⟩ := List.getElem_of_mem hm
    rw [List.length_take] at hk
    rw [List.getElem_take] at ek
    have hk2 : k < zs.length := by omega
    have := nodup_at h (i := k) (j := j) (x := zs[j]) (by rw [List.getElem?_eq_getElem hk2, ek]) e
    omega
section
variable {P : Program} {w : World} {K : PySem.W.Frag} {mg : Str → Option Value} {base : Heap} {CB CT : Addr}
theorem has_l_is_row (Z : Zs mg) (A : At K mg "_law_is_row" s_l_is_row ["_law_x"]) (h_l_is_name : Has P w K mg base "_law_is_name" s_l_is_name 2 ["_law_x"] (spJ K 5 nmD)) : Has P w K mg base "_law_is_row" s_l_is_row 3 ["_law_x"] (spJ K 5 rowD) := by
  obtain ⟨f, fd, F, mg1, bd⟩ := A
  obtain ⟨f_l_is_name, fd_l_is_name, G_l_is_name, m_l_is_name, k_l_is_name, b_l_is_name, F_l_is_name⟩ := h_l_is_name
  refine ⟨f, fd, ?_, mg1, F.kp, bd, F⟩
  refine F.ok sc_l_is_row (fun vs H Q E h => ?_) (fun cdv A outer s H vs Q E hr h => ?_)
  · obtain ⟨v, d, rfl, _⟩ := h
    rfl
  · obtain ⟨v, d, rfl, r, lv, q⟩ := h
    have nd := r.nodict
    refine ⟨_, (pss_cons (ps_if (PW.pt (pw_or (pt_not (pt_val (pe_callB call_isi (by rfl) Z.isinstance_ (by decide +kernel) (pa_cons (pv 0) (pa_cons (pe_bltn (v := .ty "tuple") (by rfl) Z.tuple_ (by decide +kernel) rfl) pa_nil))))) (pw_or (pt_cmpR op_ne (pe_callB call_len_seq (by rfl) Z.len_ (by decide +kernel) (pa_cons (pv 0) pa_nil)) pe_int (nomark _)) (pw_or (pt_not (pt_val (pe_call G_l_is_name (hr.mono (by decide)) (by rfl) m_l_is_name k_l_is_name b_l_is_name .nil pass0 (pa_cons (pe_ix ix_tup (pv 0) pe_int (fun _ _ => rfl)) pa_nil)))) (pw_or1 (pt_not (pt_val (pe_callB (show CallR _ (.builtin "isinstance") (rIsiT K) from call_isiT) (by rfl) Z.isinstance_ (by decide +kernel) (pa_cons (pe_ix ix_tup (pv 0) pe_int (fun _ _ => rfl)) (pa_cons (pe_tup (pa_cons (pe_bltn (v := .ty "list") (by rfl) Z.list_ (by decide +kernel) rfl) (pa_cons (pe_bltn (v := .ty "tuple") (by rfl) Z.tuple_ (by decide +kernel) rfl) pa_nil))) pa_nil)))))))))) (pss_one (ps_ret pe_bl)) pss_nil) (pss_cons (ps_set (i := 1) sc_l_is_row.nd rfl (Or.inr rfl) (pe_callTy call_list_of (by rfl) Z.list_ (by decide +kernel) (pa_cons (pe_ix ix_tup (pv 0) pe_int (fun _ _ => rfl)) pa_nil))) (pss_one (ps_ret (pe_and (pe_callB (cr_all rfl) (by rfl) Z.all_ (by decide +kernel) (pa_cons (pe_lc (own := [("_law_tag", 2)]) (g := gName 2) (by rfl) sc_l_is_row.nd (pi_list (pv 1)) (blkOk_by (own := [("_law_tag", 2)]) (N := ["_law_x", "_law_some", "_law_tag", "_law_k"]) (sc := defScope s_l_is_row) (by decide +kernel)) (fun _ _ _ _ _ => pg_name (i := 2) sc_l_is_row.nd rfl (Or.inl rfl)) (fun _ _ _ _ _ => pts_nil) (fun _ _ _ _ _ => (pe_call G_l_is_name (hr.mono (by decide)) (by rfl) m_l_is_name k_l_is_name b_l_is_name .nil pass0 (pa_cons (pv 2) pa_nil)))) pa_nil)) (pe_one (pe_callB (cr_all rfl) (by rfl) Z.all_ (by decide +kernel) (pa_cons (pe_lc (own := [("_law_k", 3)]) (g := gName 3) (by rfl) sc_l_is_row.nd (pi_range1 (by rfl) Z.range_ (pa_cons (pe_callB call_len_seq (by rfl) Z.len_ (by decide +kernel) (pa_cons (pv 1) pa_nil)) pa_nil)) (blkOk_by (own := [("_law_k", 3)]) (N := ["_law_x", "_law_some", "_law_tag", "_law_k"]) (sc := defScope s_l_is_row) (by decide +kernel)) (fun _ _ _ _ _ => pg_name (i := 3) sc_l_is_row.nd rfl (Or.inl rfl)) (fun _ _ _ _ _ => pts_nil) (fun _ _ _ _ _ => (pe_cmpR (show OpR _ (compareOp .NotIn) (rIn K true) from op_notIn_seq) (pe_ix (show IxR _ (rIxL K) from ix_list) (pv 1) (pv 3) (fun _ _ => rfl)) (pe_slice (show SlR _ (rSlL K) from sl_list) (pv 1) po_none (po_some (pv 3))) (by rfl)))) pa_nil)))))))), ?_⟩
    refine ⟨_, rfl, v, _, _, _, _, rfl, .ty "tuple", r.ty, kit_ty (kit_tuple d nd), _, rfl, ?_⟩
    cases d with
    | tuple ds =>
      cases r with
      | tup hs ht ra =>
        rename_i a xs
        have hl := ra.len
        refine iteF ?_
        refine ⟨_, rfl, a, xs, rfl, .inr hs, rfl, _, rfl, ?_⟩
        refine ite2 (fun h2 => ?_) (fun h2 => ?_)
        · have n2 : ds.length ≠ 2 := fun z => by rw [hl, z] at h2; cases h2
          refine iteT ?_
          have q1 := q H (Same.refl H)
          rw [row_len n2] at q1
          exact q1
        · have z : ds.length = 2 := Classical.byContradiction fun w => h2 (by rw [hl]; have : ¬ V.int ((ds.length : Nat) : Int) = V.int 2 := fun e => w (by have := V.int.inj e; omega); rw [decide_eq_false this]; rfl)
          obtain ⟨m, f0, e⟩ : ∃ m f0, ds = [m, f0] := by
            cases ds with
            | nil => cases z
            | cons m r =>
              cases r with
              | nil => cases z
              | cons f0 r =>
                cases r with
                | nil => exact ⟨m, f0, rfl⟩
                | cons _ _ => rw [List.length_cons, List.length_cons, List.length_cons] at z; omega
          subst e
          obtain ⟨v0, hv0, r0⟩ := ra.at' (i := 0) (d := m) rfl
          obtain ⟨v1, hv1, r1⟩ := ra.at' (i := 1) (d := f0) rfl
          refine ⟨_, rfl, a, xs, 0, v0, rfl, rfl, hs, atI_of (by decide) hv0, v0, m, rfl, r0, (lv_in lv List.mem_cons_self).up, fun H1 s1 => ⟨_, rfl, ?_⟩⟩
          have no : ∀ H2, Same H H2 → nmD m = false → Q (.bl false) H2 := fun H2 s2 hm => by
            have q1 := q H2 s2
            rw [show rowD (.tuple [m, f0]) = (nmD m && nmsD f0) from rfl, hm] at q1
            exact q1
          have no2 : ∀ H2, Same H H2 → nmsD f0 = false → Q (.bl false) H2 := fun H2 s2 hm => by
            have q1 := q H2 s2
            rw [show rowD (.tuple [m, f0]) = (nmD m && nmsD f0) from rfl, hm, Bool.and_false] at q1
            exact q1
          cases hm : nmD m with
          | false => exact iteT (iteT (no H1 s1 hm))
          | true =>
            refine iteF ?_
            refine ⟨_, rfl, a, xs, 1, v1, rfl, rfl, same_t s1 hs, atI_of (by decide) hv1, (by show 2 ≤ sizeLine; decide), fun t nt => ⟨v1, t, _, _, _, _, rfl, upd_same, .cons (.ty _) (.cons (.ty _) .nil), ty_same (same_new nt) (r1.to s1).ty, kit_lt f0 r1.nodict, _, rfl, ?_⟩⟩
            have s2 := s1.trans (same_new (o := .tup [.ty "list", .ty "tuple"]) nt)
            generalize upd H1 t (.tup [.ty "list", .ty "tuple"]) = H2 at s2 ⊢
            by_cases hq : tyD f0 = "list" ∨ tyD f0 = "tuple"
            · rw [decide_eq_true hq]
              refine iteF ?_
              obtain ⟨b, ws, es, rfl, hb, al, hi⟩ := seqF (r1.to s2) hq
              have lvf : Lv 4 f0 := lv_in lv (List.mem_cons_of_mem _ List.mem_cons_self)
              have lve : es.length ≤ 60 ∧ ∀ x ∈ es, Lv 3 x := by
                cases f0 with
                | list _ => cases hi; exact ⟨lvf.1, lvf.2⟩
                | tuple _ => cases hi; exact ⟨lvf.1, lvf.2⟩
                | _ => cases hi
              have lw := al.len
              refine ⟨_, rfl, a, xs, 1, _, rfl, rfl, same_t s2 hs, atI_of (by decide) hv1, b, ws, rfl, hb, fun l nl => ?_⟩
              have s3 := s2.trans (same_new (o := .lst ws) nl)
              have el : (upd H2 l (.lst ws)) l = some (.lst ws) := upd_same
              have al3 := al.to (same_new (o := .lst ws) nl)
              generalize upd H2 l (.lst ws) = H3 at s3 el al3 ⊢
              have hd := nms_strsD hi
              refine ⟨_, rfl, l, rfl, ⟨_, .inl (.inl el)⟩, fun L nL => ?_⟩
              have nLl : l ≠ L := ne_of_none el nL
              refine lc_list (K := K) (a := l) (xs := ws) (fun i H4 => Same H3 H4 ∧ H4 L = some (.lst ((es.take i).map fun e => V.bl (nmD e)))) ⟨same_new nL, upd_same⟩ (fun i H4 _ z => .inl (.inl (z.1 _ _ el))) ?_ ?_
              · rintro i x H4 hx ⟨s4, e4⟩
                obtain ⟨e, he, re⟩ := (al3.to s4).at hx
                refine ⟨rfl, _, rfl, x, e, rfl, re, (lve.2 e (List.mem_of_getElem? he)).up.up, fun H5 s5 => ⟨_, s5 _ _ e4, slineL (by rw [List.length_map, List.length_take]; omega), same_mut (s4.trans s5) nL, ?_⟩⟩
                rw [upd_same, take_succ_map he]
              rintro H4 ⟨s4, e4⟩
              rw [lw, List.take_length] at e4
              refine ⟨L, es.map nmD, rfl, .inl (.inl (by rw [List.map_map]; exact e4)), ⟨_, rfl, ?_⟩⟩
              have eall : (es.map nmD).all id = es.all nmD := by rw [List.all_map]; rfl
              rw [eall]
              have s34 := s3.trans s4
              cases hn : es.all nmD with
              | false =>
                rw [hn, Bool.false_and] at hd
                exact iteF (no2 H4 s34 hd)
              | true =>
                refine iteT ?_
                rw [hn, Bool.true_and] at hd
                have ez := nms_strs hn
                have al4 := al3.to s4
                rw [ez] at al4
                have exs := al4.isStrs
                generalize es.map strD = zs at exs hd
                subst exs
                have lz : zs.length ≤ 60 := by have := al.len; rw [List.length_map] at this; omega
                have el4 := s4 _ _ el
                refine ⟨_, rfl, l, _, rfl, .inl (.inl (.inl el4)), _, rfl, by rw [List.length_map]; omega, by rw [List.length_map]; omega, fun M nM => ?_⟩
                refine lc_range (lo := 0) (n := ((((zs.map V.str).length : Nat) : Int)).toNat) (fun i H5 => Same H4 H5 ∧ H5 M = some (.lst (((List.range i).map fun k => !decide (zs.getD k Str.empty ∈ zs.take k)).map V.bl))) ⟨same_new nM, upd_same⟩ ?_ ?_
                · rintro i H5 hi2 ⟨s5, e5⟩
                  have hi3 : i < zs.length := by
                    rw [Int.toNat_natCast, List.length_map] at hi2
                    exact hi2
                  obtain ⟨x, hx⟩ : ∃ x, zs[i]? = some x := ⟨_, List.getElem?_eq_getElem hi3⟩
                  have hxv : (zs.map V.str)[i]? = some (.str x) := by rw [List.getElem?_map, hx]; rfl
                  have i0 : ((0 : Int) + (i : Int)).toNat = i := by omega
                  have el5 := s5 _ _ el4
                  refine ⟨rfl, _, rfl, _, rfl, l, _, _, _, rfl, rfl, .inl (.inl el5), atI_of (by omega) (by rw [i0]; exact hxv), _, rfl, _, rfl, _, rfl, l, _, rfl, .inl (.inl el5), fun p np => ?_⟩
                  have s6 := same_new (o := .lst (cutV (zs.map V.str) none (some (0 + (i : Int))))) np
                  have e6 := s6 _ _ e5
                  have ep : (upd H5 p (.lst (cutV (zs.map V.str) none (some (0 + (i : Int)))))) p = some (.lst (cutV (zs.map V.str) none (some (0 + (i : Int))))) := upd_same
                  generalize upd H5 p (.lst (cutV (zs.map V.str) none (some (0 + (i : Int))))) = H6 at s6 e6 ep ⊢
                  rw [cut_to _ (by omega), i0, ← List.map_take] at ep
                  refine ⟨p, _, rfl, .inl (.inl (.inl ep)), rfl, flatS _, _, e6, slineL (by rw [List.length_map, List.length_map, List.length_range]; omega), same_mut (s5.trans s6) nM, ?_⟩
                  rw [upd_same, if_pos rfl, inS, List.range_succ, List.map_append, List.map_append, List.map_cons, List.map_nil, List.map_cons, List.map_nil, List.getD_eq_getElem?_getD, hx]
                  rfl
                rintro H5 ⟨s5, e5⟩
                rw [Int.toNat_natCast, List.length_map] at e5
                refine ⟨M, _, rfl, .inl (.inl e5), ?_⟩
                have q1 := q H5 (s34.trans s5)
                rw [show rowD (.tuple [m, f0]) = (nmD m && nmsD f0) from rfl, hm, hd, Bool.true_and, ← nodup_range] at q1
                exact q1
            · rw [decide_eq_false hq]
              refine iteT (no2 H2 s2 ?_)
              unfold nmsD
              rw [noseqF hq]
    | _ => exact iteT (iteT (q H (Same.refl H)))
end
end Th
namespace Th
open PySem PySem.Spec PyProof.Rows L2
/-- what is due: nothing, or an error -/
def dueU : Option (Str × PyData) → PyData
  | none => .tuple []
  | some (c, val) => .tuple [.str "no", .str c, val]
end Th
namespace Th
open PySem PySem.Spec PyProof.Rows L2
abbrev s_p_kinds_in : Stmt := topS 26
theorem sc_p_kinds_in : FnScope ["holdings", "_", "kinds", "kind"] ["holdings"] (defScope s_p_kinds_in) := ⟨rfl, rfl, rfl, by decide +kernel, rfl, by decide +kernel, by decide +kernel⟩
/-- the kinds of some rows, ascending, in a new list -/
def spKindsIn (K : PySem.W.Frag) : Sp := fun vs H Q _ => ∃ (v : V) (d : PyData) (ds : List PyData), vs = [v] ∧ Da K H v d ∧ itemsF d = some ds ∧ (∀ e ∈ ds, rowD e = true) ∧ ds.length ≤ 60 ∧ (∀ e ∈ ds, (rowK e).length ≤ 60) ∧ (allK (ds.map rowP)).length < 64 ∧
  ∀ (r : Addr) (ys : List Str) H', Same H H' → H r = none → H' r = some (.lst (ys.map V.str)) → ys.Perm (allK (ds.map rowP)) → sortedS ys = true → Q (.ref r) H'
theorem flat_step {α β : Type} {f : α → List β} {xs : List α} {i : Nat} {x : α} (h : xs[i]? = some x) : (xs.take (i + 1)).flatMap f = (xs.take i).flatMap f ++ f x := by
  rw [List.take_add_one, h, List.flatMap_append]
  simp
theorem flat_len {α β : Type} {f : α → List β} {n : Nat} : ∀ {xs : List α}, (∀ x ∈ xs, (f x).length ≤ n) → (xs.flatMap f).length ≤ n * xs.length
  | [], _ => by simp
  | x :: r, h => by
    rw [List.flatMap_cons, List.length_append, List.length_cons, Nat.mul_succ]
    have := h x List.mem_cons_self
    have := flat_len (f := f) (n := n) (xs := r) fun y hy => h y (List.mem_cons_of_mem _ hy)
    omega
/-- a row: a pair, whose second is a list or a tuple of the kinds -/
theorem Da.row {K : PySem.W.Frag} {H : Hp} {v : V} {e : PyData} (h : Da K H v e) (hr : rowD e = true) : ∃ (p b : Addr) (m : Str) (ks : List Str), v = .ref p ∧ SqT K H p [.str m, .ref b] ∧ (SqL K H b (ks.map V.str) ∨ SqT K H b (ks.map V.str)) ∧ isNm m = true ∧ Nms ks ∧ markOf e = m ∧ rowK e = ks := by
  obtain ⟨m, l, ks, rfl, nm, hi, nk, hp, sh⟩ := row_shape hr
  have hk : rowK (.tuple [.str m, l]) = ks := congrArg Prod.snd hp
  cases h with
  | tup sq ty ra =>
    cases ra with
    | cons r1 ra =>
      cases r1
      cases ra with
      | cons r2 ra =>
        cases ra
        rcases sh with rfl | rfl
        · cases r2 with
          | lst s2 t2 a2 => exact ⟨_, _, m, ks, rfl, sq, .inl (by rw [← a2.isStrs]; exact s2), nm, nk, rfl, hk⟩
        · cases r2 with
          | tup s2 t2 a2 => exact ⟨_, _, m, ks, rfl, sq, .inr (by rw [← a2.isStrs]; exact s2), nm, nk, rfl, hk⟩
theorem allK_rows {ds : List PyData} : allK (ds.map rowP) = once [] (ds.flatMap rowK) := by
  unfold allK
  rw [List.flatMap_map]
  rfl
section
variable {P : Program} {w : World} {K : PySem.W.Frag} {mg : Str → Option Value} {base : Heap} {CB CT : Addr}
theorem has_p_kinds_in (Z : Zs mg) (A : At K mg "_kinds_in" s_p_kinds_in ["holdings"]) : Has P w K mg base "_kinds_in" s_p_kinds_in 1 ["holdings"] (spKindsIn K) := by
  obtain ⟨f, fd, F, mg1, bd⟩ := A
  refine ⟨f, fd, ?_, mg1, F.kp, bd, F⟩
  refine F.ok sc_p_kinds_in (fun vs H Q E h => ?_) (fun cdv A outer s H vs Q E hr h => ?_)
  · obtain ⟨v, d, ds, rfl, _⟩ := h
    rfl
  · obtain ⟨v, d, ds, rfl, r, hi, hrow, hl, hk, h64, q⟩ := h
    refine ⟨_, (pss_one (ps_ret (pe_callB (cr_sortedSetS rfl) (by rfl) Z.sorted_ (by decide +kernel) (pa_cons (pe_callTy (cr_setS rfl) (by rfl) Z.set_ (by decide +kernel) (pa_cons (pe_lc2 (own := [("_", 1), ("kinds", 2), ("kind", 3)]) (vs1 := [3]) (g := gTup K 2 (gCons (gName 1) (gCons (gName 2) gNil))) (g1 := gName 3) (by rfl) sc_p_kinds_in.nd (pi_any (pv 0)) (blkOk_by (own := [("_", 1), ("kinds", 2), ("kind", 3)]) (N := ["holdings", "_", "kinds", "kind"]) (sc := defScope s_p_kinds_in) (by decide +kernel)) (by decide) (fun _ _ _ _ _ => (pg_tup (by rfl) (pgs_cons (pg_name (i := 1) sc_p_kinds_in.nd rfl (Or.inl rfl)) (pgs_cons (pg_name (i := 2) sc_p_kinds_in.nd rfl (Or.inl rfl)) pgs_nil)))) (fun _ _ _ _ _ => pts_nil) (fun _ _ _ _ _ => (show PI _ _ _ (iAny K _) from pi_any (pv 2))) (fun _ _ _ _ _ => pg_name (i := 3) sc_p_kinds_in.nd rfl (Or.inl rfl)) (fun _ _ _ _ _ => pts_nil) (fun _ _ _ _ _ => (pv 3))) pa_nil)) pa_nil)))), ?_⟩
    obtain ⟨b, vs, ds', rfl, hq, al, hi'⟩ := seqF r (by
      cases d with
      | list _ => exact .inl rfl
      | tuple _ => exact .inr rfl
      | _ => cases hi)
    cases hi.symm.trans hi'
    have lvs := al.len
    refine ⟨_, rfl, b, vs, H, rfl, hq, Same.refl H, fun J wJ L nL => ?_⟩
    refine lc2_it wJ (fun i H2 => Same H H2 ∧ H2 L = some (.lst (((ds.take i).flatMap rowK).map V.str))) ⟨same_new nL, upd_same⟩ (fun i H2 _ z => z.1) ?_ ?_
    · rintro i x H2 H2' hi2 ⟨s2, e2⟩ ⟨rfl, hx⟩
      obtain ⟨e, he, re⟩ := al.at hx
      obtain ⟨p, b2, m, ks, rfl, sq, hb2, nm, nk, em, ek⟩ := re.row (hrow e (List.mem_of_getElem? he))
      refine ⟨p, _, rfl, same_t s2 sq, rfl, _, _, rfl, _, _, rfl, rfl, rfl, ?_⟩
      refine ⟨_, rfl, b2, _, H, rfl, hb2, s2, fun J1 wJ1 => ?_⟩
      have lks : ks.length ≤ 60 := by rw [← ek]; exact hk e (List.mem_of_getElem? he)
      have lacc : ((ds.take i).flatMap rowK).length ≤ 60 * 60 := by
        have := flat_len (f := rowK) (n := 60) (xs := ds.take i) fun y hy => hk y (List.mem_of_mem_take hy)
        have l2 : (ds.take i).length ≤ 60 := by rw [List.length_take]; omega
        have := Nat.mul_le_mul_left 60 l2
        omega
      refine in_it wJ1 (fun j H3 => Same H H3 ∧ H3 L = some (.lst (((ds.take i).flatMap rowK ++ ks.take j).map V.str))) ⟨s2, by rw [List.take_zero, List.append_nil]; exact e2⟩ (fun j H3 _ z => z.1) ?_ ?_
      · rintro j y H3 H3' hj ⟨s03, e3⟩ ⟨rfl, hy⟩
        obtain ⟨z, hz, rfl⟩ := getmap hy
        refine ⟨rfl, _, rfl, _, e3, slineL (by rw [List.length_map, List.length_append, List.length_take]; omega), ?_⟩
        refine ⟨same_mut s03 nL, ?_⟩
        rw [upd_same, List.take_add_one, hz, ← List.append_assoc, List.map_append (l₂ := (some z).toList)]
        rfl
      · rintro H3 ⟨s03, e3⟩
        rw [List.length_map, List.take_length] at e3
        refine ⟨s03, ?_⟩
        rw [e3, flat_step he, ek]
    rintro H2 ⟨s2, e2⟩
    rw [lvs, List.take_length] at e2
    have lall : (ds.flatMap rowK).length ≤ 60 * 60 := by
      have := flat_len (f := rowK) (n := 60) (xs := ds) hk
      have := Nat.mul_le_mul_left 60 hl
      omega
    refine ⟨L, ds.flatMap rowK, rfl, .inl (.inl (.inl e2)), ?_, fun p np => ?_⟩
    · have z : 60 * 60 + 1 < scanBound := by decide +kernel
      omega
    refine ⟨p, _, rfl, upd_same, by rw [← allK_rows]; exact h64, fun ys u pm so nu => ?_⟩
    exact q u ys _ ((s2.trans (same_new np)).trans (same_new nu)) (s2.free (Same.free (same_new np) nu)) upd_same (by rw [allK_rows]; exact pm) so
end
end Th
namespace Th
open PySem PySem.Spec PyProof.Rows L2
abbrev s_l_holdings_due : Stmt := topS 42
theorem sc_l_holdings_due : FnScope ["_law_x", "_law_bad", "_law_k", "_law_tags", "_law_row", "_law_twice", "_law_some", "_law_sort_z"] ["_law_x"] (defScope s_l_holdings_due) := ⟨rfl, rfl, rfl, by decide +kernel, rfl, by decide +kernel, by decide +kernel⟩
/-- what is due of holdings -/
def spHoldDue (K : PySem.W.Frag) : Sp := fun vs H Q _ => ∃ (v : V) (d : PyData), vs = [v] ∧ Da K H v d ∧ (∀ ds, itemsF d = some ds → ∀ e ∈ ds, Lv 5 e) ∧ ∀ r H', Same H H' → Da K H' r (dueU (tbDue d)) → Q r H'
section
variable {P : Program} {w : World} {K : PySem.W.Frag} {mg : Str → Option Value} {base : Heap} {CB CT : Addr}
theorem has_l_holdings_due (Z : Zs mg) (A : At K mg "_law_holdings_due" s_l_holdings_due ["_law_x"]) (h_l_is_row : Has P w K mg base "_law_is_row" s_l_is_row 3 ["_law_x"] (spJ K 5 rowD)) : Has P w K mg base "_law_holdings_due" s_l_holdings_due 7 ["_law_x"] (spHoldDue K) := by
  obtain ⟨f, fd, F, mg1, bd⟩ := A
  obtain ⟨f_l_is_row, fd_l_is_row, G_l_is_row, m_l_is_row, k_l_is_row, b_l_is_row, F_l_is_row⟩ := h_l_is_row
  refine ⟨f, fd, ?_, mg1, F.kp, bd, F⟩
  refine F.ok sc_l_holdings_due (fun vs H Q E h => ?_) (fun cdv A outer s H vs Q E hr h => ?_)
  · obtain ⟨v, d, rfl, _⟩ := h
    rfl
  · obtain ⟨v, d, rfl, rv, hlv0, q⟩ := h
    refine ⟨_, (pss_cons (ps_if (PW.pt (pw_or (pt_not (pt_val (pe_callB (show CallR _ (.builtin "isinstance") (rIsiT K) from call_isiT) (by rfl) Z.isinstance_ (by decide +kernel) (pa_cons (pv 0) (pa_cons (pe_tup (pa_cons (pe_bltn (v := .ty "list") (by rfl) Z.list_ (by decide +kernel) rfl) (pa_cons (pe_bltn (v := .ty "tuple") (by rfl) Z.tuple_ (by decide +kernel) rfl) pa_nil))) pa_nil))))) (pw_or1 (pt_cmpR op_eq (pe_callB call_len_seq (by rfl) Z.len_ (by decide +kernel) (pa_cons (pv 0) pa_nil)) pe_int (nomark _))))) (pss_one (ps_ret (pe_tup (pa_cons pe_str (pa_cons pe_str (pa_cons (pe_un un_neg pe_int) pa_nil)))))) pss_nil) (pss_cons (ps_if (pt_cmpR op_gt (pe_callB call_len_seq (by rfl) Z.len_ (by decide +kernel) (pa_cons (pv 0) pa_nil)) pe_int (nomark _)) (pss_one (ps_ret (pe_tup (pa_cons pe_str (pa_cons pe_str (pa_cons pe_int pa_nil)))))) pss_nil) (pss_cons (ps_setLc (i := 1) (own := [("_law_k", 2)]) (g := gName 2) (by rfl) sc_l_holdings_due.nd rfl rfl (sw_true rfl rfl rfl (by decide +kernel)) (pi_range1 (by rfl) Z.range_ (pa_cons (pe_callB call_len_seq (by rfl) Z.len_ (by decide +kernel) (pa_cons (pv 0) pa_nil)) pa_nil)) (blkOk_by (own := [("_law_k", 2)]) (N := ["_law_x", "_law_bad", "_law_k", "_law_tags", "_law_row", "_law_twice", "_law_some", "_law_sort_z"]) (sc := defScope s_l_holdings_due) (by decide +kernel)) (fun _ _ _ _ _ => pg_name (i := 2) sc_l_holdings_due.nd rfl (Or.inl rfl)) (fun _ _ _ _ _ => (pts_one (pt_not (pt_val (pe_call G_l_is_row (hr.mono (by decide)) (by rfl) m_l_is_row k_l_is_row b_l_is_row .nil pass0 (pa_cons (pe_ix (show IxR _ (rIx K) from ix_seq) (pv 0) (pv 2) (fun _ _ => rfl)) pa_nil)))))) (fun _ _ _ _ _ => (pv 2))) (pss_cons (ps_if (pt_cmpR (op_neD hr.units) (pv 1) (pe_lst pa_nil) (nomark _)) (pss_one (ps_ret (pe_tup (pa_cons pe_str (pa_cons pe_str (pa_cons (pe_ix ix_list (pv 1) pe_int (fun _ _ => rfl)) pa_nil)))))) pss_nil) (pss_cons (ps_set (i := 3) sc_l_holdings_due.nd rfl (Or.inr rfl) (pe_lc (own := [("_law_row", 4)]) (g := gName 4) (by rfl) sc_l_holdings_due.nd (pi_any (pv 0)) (blkOk_by (own := [("_law_row", 4)]) (N := ["_law_x", "_law_bad", "_law_k", "_law_tags", "_law_row", "_law_twice", "_law_some", "_law_sort_z"]) (sc := defScope s_l_holdings_due) (by decide +kernel)) (fun _ _ _ _ _ => pg_name (i := 4) sc_l_holdings_due.nd rfl (Or.inl rfl)) (fun _ _ _ _ _ => pts_nil) (fun _ _ _ _ _ => (pe_ix (show IxR _ (rIxT K) from ix_tup) (pv 4) pe_int (fun _ _ => rfl))))) (pss_cons (ps_setLc (i := 5) (own := [("_law_k", 2)]) (g := gName 2) (by rfl) sc_l_holdings_due.nd rfl rfl (sw_true rfl rfl rfl (by decide +kernel)) (pi_range1 (by rfl) Z.range_ (pa_cons (pe_callB call_len_seq (by rfl) Z.len_ (by decide +kernel) (pa_cons (pv 0) pa_nil)) pa_nil)) (blkOk_by (own := [("_law_k", 2)]) (N := ["_law_x", "_law_bad", "_law_k", "_law_tags", "_law_row", "_law_twice", "_law_some", "_law_sort_z"]) (sc := defScope s_l_holdings_due) (by decide +kernel)) (fun _ _ _ _ _ => pg_name (i := 2) sc_l_holdings_due.nd rfl (Or.inl rfl)) (fun _ _ _ _ _ => (pts_one (pt_cmpR (show OpR _ (compareOp .In) (rIn K false) from op_in_seq) (pe_ix (show IxR _ (rIxL K) from ix_list) (pv 3) (pv 2) (fun _ _ => rfl)) (pe_slice (show SlR _ (rSlL K) from sl_list) (pv 3) po_none (po_some (pv 2))) (by rfl)))) (fun _ _ _ _ _ => (pe_ix (show IxR _ (rIxL K) from ix_list) (pv 3) (pv 2) (fun _ _ => rfl)))) (pss_cons (ps_if (pt_cmpR (op_neD hr.units) (pv 5) (pe_lst pa_nil) (nomark _)) (pss_one (ps_ret (pe_tup (pa_cons pe_str (pa_cons pe_str (pa_cons (pe_ix ix_list (pv 5) pe_int (fun _ _ => rfl)) pa_nil)))))) pss_nil) (pss_cons (ps_set (i := 6) sc_l_holdings_due.nd rfl (Or.inr rfl) (pe_lst pa_nil)) (pss_cons (ps_for PassesOwn.never rfl (pi_any (pv 0)) (pg_name (i := 4) sc_l_holdings_due.nd rfl (Or.inl rfl)) (pss_one (ps_set (i := 6) sc_l_holdings_due.nd rfl (Or.inr rfl) (pe_op op_cat (pv 6) (pe_lc (own := [("_law_sort_z", 7)]) (g := gName 7) (by rfl) sc_l_holdings_due.nd (pi_any (pe_ix ix_tup (pv 4) pe_int (fun _ _ => rfl))) (blkOk_by (own := [("_law_sort_z", 7)]) (N := ["_law_x", "_law_bad", "_law_k", "_law_tags", "_law_row", "_law_twice", "_law_some", "_law_sort_z"]) (sc := defScope s_l_holdings_due) (by decide +kernel)) (fun _ _ _ _ _ => pg_name (i := 7) sc_l_holdings_due.nd rfl (Or.inl rfl)) (fun _ _ _ _ _ => (pts_one (pt_cmpR (show OpR _ (compareOp .NotIn) (rIn K true) from op_notIn_seq) (pv 7) (pv 6) (by rfl)))) (fun _ _ _ _ _ => (pv 7))))))) (pss_one (ps_ret (pe_ifExp (pt_cmpR op_gt (pe_callB call_len_seq (by rfl) Z.len_ (by decide +kernel) (pa_cons (pv 6) pa_nil)) pe_int (nomark _)) (pe_tup (pa_cons pe_str (pa_cons pe_str (pa_cons pe_int pa_nil)))) (pe_tup pa_nil))))))))))))), ?_⟩
    have nd := rv.nodict
    refine ⟨_, rfl, (by show 2 ≤ sizeLine; decide), fun t nt => ⟨v, t, _, _, _, _, rfl, upd_same, .cons (.ty _) (.cons (.ty _) .nil), ty_same (same_new nt) rv.ty, kit_lt d nd, _, rfl, ?_⟩⟩
    refine ite2 (fun z => iteT ?_) (fun z => ?_)
    · have hn := noseqF (d := d) (fun w => by rw [decide_eq_true w] at z; cases z)
      refine ⟨1, rfl, by show 3 ≤ sizeLine; decide, fun r nr => ?_⟩
      refine q _ _ ((same_new nt).trans (same_new nr)) ?_
      rw [tb_none hn]
      exact Da.newT upd_same (.cons (.str _) (.cons (.str _) (.cons (.int _) .nil)))
    have s1 : Same H (upd H t (.tup [.ty "list", .ty "tuple"])) := same_new nt
    generalize upd H t (.tup [.ty "list", .ty "tuple"]) = H1 at s1 ⊢
    obtain ⟨b, vs, ds, rfl, hq, al, hi⟩ := seqF (rv.to s1) (Classical.byContradiction fun w => z (by rw [decide_eq_false w]; rfl))
    have hlv := hlv0 ds hi
    have lvs := al.len
    refine ⟨_, rfl, b, vs, rfl, hq, rfl, _, rfl, ite2 (fun z => ?_) (fun z0 => ?_)⟩
    · have hlen : ds.length = 0 := by
        have z := V.int.inj (of_decide_eq_true z)
        omega
      refine ⟨1, rfl, by show 3 ≤ sizeLine; decide, fun r nr => ?_⟩
      refine q _ _ (s1.trans (same_new nr)) ?_
      rw [tb_no hi hlen]
      exact Da.newT upd_same (.cons (.str _) (.cons (.str _) (.cons (.int _) .nil)))
    have l0 : ds.length ≠ 0 := fun w => z0 (decide_eq_true (by rw [lvs, w]; rfl))
    refine ⟨_, rfl, b, vs, rfl, hq, _, _, rfl, rfl, _, rfl, ite2 (fun z => ?_) (fun z => ?_)⟩
    · have hlen : 12 < ds.length := by
        have z := of_decide_eq_true z
        omega
      refine ⟨by show 3 ≤ sizeLine; decide, fun r nr => ?_⟩
      refine q _ _ (s1.trans (same_new nr)) ?_
      rw [tb_many hi hlen]
      exact Da.newT upd_same (.cons (.str _) (.cons (.str _) (.cons (.int _) .nil)))
    have hl : ds.length ≤ 12 := by
      have z : ¬ ((vs.length : Nat) : Int) > 12 := fun w => z (decide_eq_true w)
      omega
    -- bad ones
    refine ⟨_, rfl, b, vs, rfl, hq, _, rfl, by omega, by omega, fun L nL => ?_⟩
    refine lc_range (lo := 0) (n := ((vs.length : Nat) : Int).toNat) (fun i H2 => Same H1 H2 ∧ H2 L = some (.lst (((List.range i).filter fun k => !rowD (ds.getD k .none)).map fun k => V.int (k : Nat)))) ⟨same_new nL, upd_same⟩ ?_ ?_
    · rintro i H2 hi2 ⟨s2, e2⟩
      obtain ⟨x, hx⟩ : ∃ x, vs[i]? = some x := ⟨_, List.getElem?_eq_getElem (by omega)⟩
      obtain ⟨e, he, re⟩ := (al.to s2).at hx
      refine ⟨rfl, _, rfl, _, rfl, ix_any (sq_any s2 hq) hx ⟨x, e, rfl, re, hlv e (List.mem_of_getElem? he), fun H3 s3 => ⟨_, rfl, ite2 (fun hm => ?_) (fun hm => ?_)⟩⟩⟩
      · refine ⟨_, rfl, _, s3 _ _ e2, slineL (by rw [List.length_map]; have := List.length_filter_le (fun k => !rowD (ds.getD k .none)) (List.range i); rw [List.length_range] at this; omega), same_mut (s2.trans s3) nL, ?_⟩
        rw [upd_same, List.range_succ, List.filter_append, List.map_append]
        congr 3
        rw [List.filter_cons, getDd he, hm, if_pos rfl, List.filter_nil, List.map_cons, Int.zero_add]
        rfl
      · refine ⟨s2.trans s3, ?_⟩
        rw [s3 _ _ e2, List.range_succ, List.filter_append, List.filter_cons, getDd he, if_neg hm, List.filter_nil, List.append_nil]
    rintro H2' ⟨s2', e2⟩
    rw [show (((vs.length : Nat) : Int)).toNat = ds.length by omega] at e2
    refine ⟨_, rfl, Nat.zero_le _, fun u nu => ?_⟩
    have e2 := kp (u := .lst []) e2 nu
    have s2 := s2'.trans (same_new (o := .lst []) nu)
    have eu : (upd H2' u (.lst [])) u = some (.lst []) := upd_same
    generalize upd H2' u (.lst []) = H2 at e2 s2 eu ⊢
    have hix : firstIx (fun k => !rowD (ds.getD k .none)) ds.length = ((List.range ds.length).filter fun k => !rowD (ds.getD k .none)).head? := by
      unfold firstIx
      rw [List.head?_filter]
    have hmem : ∀ k, k ∈ ((List.range ds.length).filter fun k => !rowD (ds.getD k .none)) ↔ k < ds.length ∧ rowD (ds.getD k .none) = false := fun k => by
      rw [List.mem_filter, List.mem_range]
      simp
    have lbad : ((List.range ds.length).filter fun k => !rowD (ds.getD k .none)).length ≤ 40 := by
      have := List.length_filter_le (fun k => !rowD (ds.getD k .none)) (List.range ds.length)
      rw [List.length_range] at this
      omega
    generalize ((List.range ds.length).filter fun k => !rowD (ds.getD k .none)) = bad at hix e2 hmem lbad
    have lvb : Lv 1 (.list (bad.map fun (k : Nat) => PyData.int (k : Int))) := ⟨by rw [List.length_map]; omega, fun x hx => by
      obtain ⟨k, _, rfl⟩ := List.mem_map.mp hx
      trivial⟩
    have rbad : DaAll K H2 (bad.map fun (k : Nat) => V.int (k : Int)) (bad.map fun (k : Nat) => PyData.int (k : Int)) := by
      clear lvb lbad hmem e2 hix
      induction bad with
      | nil => exact .nil
      | cons k r ih => exact .cons (.int _) ih
    refine ⟨.list (bad.map fun (k : Nat) => PyData.int (k : Int)), .list [], .lst (.inl (.inl e2)) (DaAll.dp (K := K) _ _ rbad), .lst (.inl (.inl eu)) .nil, lvb.shaped (by decide), (lv_of 1 _ (by decide +kernel) : Lv 1 (.list [])).shaped (by decide), _, rfl, ?_⟩
    have e0 : PyData.eqv (.list (bad.map fun (k : Nat) => PyData.int (k : Int))) (.list []) = bad.isEmpty := by
      cases bad <;> simp [PyData.eqv, PyData.eqvAll]
    rw [e0]
    cases bad with
    | cons k bad =>
      refine iteT ?_
      refine ⟨_, rfl, L, _, 0, .int (k : Int), rfl, rfl, .inl (.inl e2), atI_of (by decide) rfl, by show 3 ≤ sizeLine; decide, fun r nr => ?_⟩
      refine q _ _ ((s1.trans s2).trans (same_new nr)) ?_
      have ed : tbDue d = dueE "InvalidFind" (.int (k : Int)) := by
        unfold tbDue
        rw [hi]
        show (if ds.length = 0 then _ else _) = _
        rw [if_neg l0, if_neg (by omega), hix]
        rfl
      rw [ed]
      exact Da.newT upd_same (.cons (.str _) (.cons (.str _) (.cons (.int _) .nil)))
    | nil =>
    refine iteF ?_
    have hall : ∀ (j : Nat) (e' : PyData), ds[j]? = some e' → rowD e' = true := fun j e' he => by
      cases hm : rowD e' with
      | true => rfl
      | false =>
        have := (hmem j).mpr ⟨lt_of_get he, by rw [getDd he]; exact hm⟩
        cases this
    have hrow : ∀ e ∈ ds, rowD e = true := fun e he => by
      obtain ⟨j, hj⟩ := List.getElem?_of_mem he
      exact hall j e hj
    -- the marks
    refine ⟨_, rfl, b, vs, H1, rfl, hq, s2, fun J wJ L2 nL2 => ?_⟩
    refine lc_it wJ (fun i H4 => Same H2 H4 ∧ H4 L2 = some (.lst (((ds.map markOf).take i).map V.str))) ⟨same_new nL2, upd_same⟩ (fun i H4 _ z => s2.trans z.1) ?_ ?_
    · rintro i x H4 H4' hi4 ⟨s4, e4⟩ ⟨rfl, hx⟩
      obtain ⟨e, he, re⟩ := al.at hx
      obtain ⟨p2, b2, m, ks, rfl, sq, hb2, nm, nk, em, ek⟩ := re.row (hall _ e he)
      refine ⟨rfl, _, rfl, p2, _, 0, _, rfl, rfl, same_t (s2.trans s4) sq, atI_of (by decide) rfl, _, e4, slineL (by rw [List.length_map, List.length_take, List.length_map]; omega), same_mut s4 nL2, ?_⟩
      rw [upd_same, take_succ_map (f := V.str) (x := m) (by rw [List.getElem?_map, he, ← em]; rfl)]
    rintro H4 ⟨s4, e4⟩
    rw [List.take_of_length_le (by rw [List.length_map, lvs]; exact Nat.le_refl _)] at e4
    have nmk : ∀ x ∈ ds.map markOf, isNm x = true := fun x hx => by
      obtain ⟨e, he, rfl⟩ := List.mem_map.mp hx
      obtain ⟨j, hj⟩ := List.getElem?_of_mem he
      obtain ⟨m, l, ks, rfl, nm, _⟩ := row_shape (hrow e he)
      exact nm
    have lms : (ds.map markOf).length = ds.length := List.length_map _
    have s24 := s2.trans s4
    have egood : dupAt (ds.map markOf) = none → ¬ 10 < (allK (ds.map rowP)).length → tbDue d = none := fun z1 z2 => tb_good hi l0 hl hall z1 z2
    have ekin : dupAt (ds.map markOf) = none → 10 < (allK (ds.map rowP)).length → tbDue d = dueE "TooMany" (.int 10) := fun z1 z2 => tb_kinds hi l0 hl hall z1 z2
    have edup : ∀ x, dupAt (ds.map markOf) = some x → tbDue d = dueE "DuplicateName" (.str x) := fun x => tb_dup hi l0 hl hall
    generalize ds.map markOf = ms at e4 nmk lms egood ekin edup
    -- twice
    refine ⟨_, rfl, b, vs, rfl, sq_any s24 hq, _, rfl, by omega, by omega, fun L3 nL3 => ?_⟩
    have eL2 := kp (u := .lst []) e4 nL3
    refine lc_range (lo := 0) (n := ((vs.length : Nat) : Int).toNat) (fun i H5 => Same H4 H5 ∧ H5 L3 = some (.lst (((List.range i).filter fun k => decide (ms.getD k Str.empty ∈ ms.take k)).map fun k => V.str (ms.getD k Str.empty)))) ⟨same_new nL3, upd_same⟩ ?_ ?_
    · rintro i H5 hi5 ⟨s5, e5⟩
      have hil : i < ms.length := by omega
      obtain ⟨y, hy⟩ : ∃ y, ms[i]? = some y := ⟨_, List.getElem?_eq_getElem hil⟩
      have e45 := s5 _ _ e4
      have i0 : ((0 : Int) + (i : Int)).toNat = i := by omega
      refine ⟨rfl, _, rfl, _, rfl, L2, _, _, .str y, rfl, rfl, .inl (.inl e45), atI_of (by omega) (by rw [i0, List.getElem?_map, hy]; rfl), _, rfl, _, rfl, (i : Int), congrArg V.int (Int.zero_add _), L2, _, rfl, .inl (.inl e45), fun R nR => ?_⟩
      have s6 := s5.trans (same_new (o := .lst (cutV (ms.map V.str) none (some (i : Int)))) nR)
      have ec : cutV (ms.map V.str) none (some (i : Int)) = (ms.take i).map V.str := by rw [cut_to _ (Int.natCast_nonneg i), Int.toNat_natCast, List.map_take]
      have e56 := kp (u := .lst (cutV (ms.map V.str) none (some (i : Int)))) e5 nR
      rw [ec] at s6 e56 ⊢
      refine ⟨R, _, rfl, .inl (.inl (.inl upd_same)), rfl, flatS _, _, rfl, ?_⟩
      rw [inS]
      have eg := getD_of hy
      refine ite2 (fun hm => ?_) (fun hm => ?_)
      · have hm' : y ∈ ms.take i := by simpa using hm
        refine ⟨_, rfl, _, rfl, L2, _, _, .str y, rfl, rfl, .inl (.inl (s6 _ _ e4)), atI_of (by omega) (by rw [i0, List.getElem?_map, hy]; rfl), _, e56, slineL (by rw [List.length_map]; have := List.length_filter_le (fun k => decide (ms.getD k Str.empty ∈ ms.take k)) (List.range i); rw [List.length_range] at this; omega), same_mut s6 nL3, ?_⟩
        rw [upd_same, List.range_succ, List.filter_append, List.map_append]
        congr 3
        rw [List.filter_cons, eg, decide_eq_true hm', if_pos rfl, List.filter_nil, List.map_cons, eg]
        rfl
      · have hm' : y ∉ ms.take i := by simpa using hm
        refine ⟨s6, ?_⟩
        rw [e56, List.range_succ, List.filter_append, List.filter_cons, eg, decide_eq_false hm', if_neg Bool.false_ne_true, List.filter_nil, List.append_nil]
    rintro H5 ⟨s5, e5⟩
    rw [show (((vs.length : Nat) : Int)).toNat = ms.length by omega] at e5
    have s25 := s24.trans s5
    refine ⟨_, rfl, Nat.zero_le _, fun u nu => ?_⟩
    have e56 := kp (u := .lst []) e5 nu
    have s26 := s25.trans (same_new (o := .lst []) nu)
    have eu : (upd H5 u (.lst [])) u = some (.lst []) := upd_same
    generalize upd H5 u (.lst []) = H6 at e56 s26 eu ⊢
    have hdup : dupAt ms = (((List.range ms.length).filter fun k => decide (ms.getD k Str.empty ∈ ms.take k)).map fun k => ms.getD k Str.empty).head? := by
      unfold dupAt firstIx
      rw [← List.head?_filter, List.head?_map]
    have emap : (((List.range ms.length).filter fun k => decide (ms.getD k Str.empty ∈ ms.take k)).map fun k => V.str (ms.getD k Str.empty)) = (((List.range ms.length).filter fun k => decide (ms.getD k Str.empty ∈ ms.take k)).map fun k => ms.getD k Str.empty).map V.str := by rw [List.map_map]; rfl
    rw [emap] at e56
    have ltw : (((List.range ms.length).filter fun k => decide (ms.getD k Str.empty ∈ ms.take k)).map fun k => ms.getD k Str.empty).length ≤ 40 := by
      rw [List.length_map]
      have := List.length_filter_le (fun k => decide (ms.getD k Str.empty ∈ ms.take k)) (List.range ms.length)
      rw [List.length_range] at this
      omega
    have ntw : ∀ x ∈ (((List.range ms.length).filter fun k => decide (ms.getD k Str.empty ∈ ms.take k)).map fun k => ms.getD k Str.empty), isNm x = true := fun x hx => by
      obtain ⟨k, hk, rfl⟩ := List.mem_map.mp hx
      have hk := List.mem_range.mp (List.mem_filter.mp hk).1
      obtain ⟨y, hy⟩ : ∃ y, ms[k]? = some y := ⟨_, List.getElem?_eq_getElem hk⟩
      rw [getD_of hy]
      exact nmk y (List.mem_of_getElem? hy)
    generalize (((List.range ms.length).filter fun k => decide (ms.getD k Str.empty ∈ ms.take k)).map fun k => ms.getD k Str.empty) = tw at hdup e56 ltw ntw
    refine ⟨.list (tw.map .str), .list [], .lst (.inl (.inl e56)) (DaAll.dp (K := K) _ _ (DaAll.strs tw)), .lst (.inl (.inl eu)) .nil, (lv_lotL (n := 0) ntw (by omega)).shaped (by decide), (lv_of 1 _ (by decide +kernel) : Lv 1 (.list [])).shaped (by decide), _, rfl, ?_⟩
    have e0 : PyData.eqv (.list (tw.map .str)) (.list []) = tw.isEmpty := by
      cases tw <;> simp [PyData.eqv, PyData.eqvAll]
    rw [e0]
    cases tw with
    | cons y tw =>
      refine iteT ?_
      refine ⟨_, rfl, L3, _, 0, .str y, rfl, rfl, .inl (.inl e56), atI_of (by decide) rfl, by show 3 ≤ sizeLine; decide, fun r nr => ?_⟩
      refine q _ _ ((s1.trans s26).trans (same_new nr)) ?_
      rw [edup _ hdup]
      exact Da.newT upd_same (.cons (.str _) (.cons (.str _) (.cons (.str _) .nil)))
    | nil =>
    refine iteF ?_
    refine ⟨Nat.zero_le _, fun S0 nS0 => ?_⟩
    have s17 := s26.trans (same_new (o := .lst []) nS0)
    have eS0 : (upd H6 S0 (.lst [])) S0 = some (.lst (([] : List Str).map V.str)) := upd_same
    generalize upd H6 S0 (.lst []) = H7 at s17 eS0 ⊢
    have lvK : ∀ e ∈ ds, (rowK e).length ≤ 60 := fun e he => by
      obtain ⟨m, l, ks, rfl, nm, hil, nk, hp, sh⟩ := row_shape (hrow e he)
      have hk : rowK (.tuple [.str m, l]) = ks := congrArg Prod.snd hp
      have lv1 := (hlv _ he).2 l (List.mem_cons_of_mem _ List.mem_cons_self)
      rw [hk]
      rcases sh with rfl | rfl
      · have := lv1.1
        rwa [List.length_map] at this
      · have := lv1.1
        rwa [List.length_map] at this
    -- the kinds, one after another
    refine ⟨_, rfl, b, vs, H1, rfl, hq, s17, fun J wJ => for_it wJ (fun i σ H' => Same H1 H' ∧ ∃ (y4 : Option V) (S : Addr) (zs : List Str), σ = [some (.ref b), some (.ref L), none, some (.ref L2), y4, some (.ref L3), some (.ref S), none] ∧ H' S = some (.lst (zs.map V.str)) ∧ zs.Nodup ∧ (∀ x, x ∈ zs ↔ ∃ e ∈ ds.take i, x ∈ rowK e) ∧ zs.length ≤ 60 * i) ⟨s17, _, S0, [], rfl, eS0, List.nodup_nil, fun x => by simp, Nat.zero_le _⟩ (fun i σ H' _ z => z.1) ?_ ?_⟩
    · rintro i x σ H8' H8 hi8 ⟨s8, y4, S, zs, rfl, eS, nz, mz, lz⟩ ⟨rfl, hx⟩
      obtain ⟨e, he, re⟩ := al.at hx
      obtain ⟨p2, b2, m, ks, rfl, sq, hb2, nm, nk, em, ek⟩ := re.row (hall _ e he)
      have lks : ks.length ≤ 60 := by rw [← ek]; exact lvK e (List.mem_of_getElem? he)
      have li : i < 12 := Nat.lt_of_lt_of_le (lt_of_get he) hl
      refine ⟨_, rfl, _, rfl, p2, _, 1, _, rfl, rfl, same_t s8 sq, atI_of (by decide) rfl, b2, ks.map V.str, H1, rfl, hb2, s8, fun J2 wJ2 M nM => ?_⟩
      refine lc_it wJ2 (fun j H9 => Same H8 H9 ∧ H9 M = some (.lst (((ks.take j).filter fun y => !decide (y ∈ zs)).map V.str))) ⟨same_new nM, upd_same⟩ (fun j H9 _ z => s8.trans z.1) ?_ ?_
      · rintro j y H9 H9' hj ⟨s9, e9⟩ ⟨rfl, hy⟩
        obtain ⟨z, hz, rfl⟩ := getmap hy
        refine ⟨rfl, _, rfl, _, rfl, S, _, rfl, .inl (.inl (.inl (s9 _ _ eS))), rfl, flatS _, _, rfl, ?_⟩
        rw [if_pos rfl, inS]
        have ll : ((ks.take j).filter fun y => !decide (y ∈ zs)).length ≤ 60 := by
          have a := List.length_filter_le (fun y => !decide (y ∈ zs)) (ks.take j)
          rw [List.length_take] at a
          omega
        refine ite2 (fun hm => ?_) (fun hm => ?_)
        · refine ⟨_, rfl, _, e9, slineL (by rw [List.length_map]; omega), same_mut s9 nM, ?_⟩
          rw [upd_same, filterStep hz, if_pos hm, List.map_append]
          rfl
        · refine ⟨s9, ?_⟩
          rw [e9, filterStep hz, if_neg hm, List.append_nil]
      rintro H9 ⟨s9, e9⟩
      rw [List.length_map, List.take_length] at e9
      have a := List.length_filter_le (fun y => !decide (y ∈ zs)) ks
      refine ⟨S, M, _, _, rfl, rfl, s9 _ _ eS, e9, Nat.le_of_lt (slineL (by simp only [List.length_append, List.length_map]; omega)), fun R nR => ⟨(s8.trans s9).trans (same_new nR), _, R, zs ++ ks.filter fun y => !decide (y ∈ zs), rfl, by rw [upd_same, List.map_append], ?_, fun x => ?_, by rw [List.length_append]; omega⟩⟩
      · refine List.nodup_append.mpr ⟨nz, nk.1.filter _, fun u hu w hw e => ?_⟩
        have := (List.mem_filter.mp hw).2
        rw [← e, decide_eq_true hu] at this
        cases this
      · rw [List.mem_append, List.mem_filter]
        rw [show ds.take (i + 1) = ds.take i ++ [e] by rw [List.take_add_one, he]; rfl]
        refine ⟨fun h => ?_, ?_⟩
        · rcases h with h | h
          · obtain ⟨e', h1, h2⟩ := (mz x).mp h
            exact ⟨e', List.mem_append_left _ h1, h2⟩
          · exact ⟨e, List.mem_append_right _ List.mem_cons_self, by rw [ek]; exact h.1⟩
        · rintro ⟨e', h1, h2⟩
          rcases List.mem_append.mp h1 with h1 | h1
          · exact .inl ((mz x).mpr ⟨e', h1, h2⟩)
          · rw [List.mem_singleton.mp h1, ek] at h2
            by_cases hz : x ∈ zs
            · exact .inl hz
            · exact .inr ⟨h2, by rw [decide_eq_false hz]; rfl⟩
    rintro σ H8 ⟨s8, y4, S, zs, rfl, eS, nz, mz, lz⟩
    rw [lvs, List.take_length] at mz
    have hn : zs.length = (allK (ds.map rowP)).length := by
      have m2 : ∀ x, x ∈ allK (ds.map rowP) ↔ x ∈ zs := fun x => by
        rw [allK_mem, mz]
        refine ⟨?_, ?_⟩
        · rintro ⟨p, hp, hx⟩
          obtain ⟨e, he, rfl⟩ := List.mem_map.mp hp
          exact ⟨e, he, hx⟩
        · rintro ⟨e, he, hx⟩
          exact ⟨_, List.mem_map.mpr ⟨e, he, rfl⟩, hx⟩
      exact Nat.le_antisymm (nodup_sub nz fun x hx => (m2 x).mpr hx) (nodup_sub (allK_nodup _) fun x hx => (m2 x).mp hx)
    refine ⟨_, rfl, S, _, rfl, .inl (.inl (.inl eS)), _, _, rfl, rfl, _, rfl, ite2 (fun z => ?_) (fun z => ?_)⟩
    · have z := of_decide_eq_true z
      rw [List.length_map] at z
      refine ⟨by show 3 ≤ sizeLine; decide, fun r nr => q _ _ ((s1.trans s8).trans (same_new nr)) ?_⟩
      rw [ekin hdup (by omega)]
      exact Da.newT upd_same (.cons (.str _) (.cons (.str _) (.cons (.int _) .nil)))
    · have z : ¬ 10 < (allK (ds.map rowP)).length := fun w => z (decide_eq_true (by rw [List.length_map]; omega))
      refine ⟨Nat.zero_le _, fun r nr => q _ _ ((s1.trans s8).trans (same_new nr)) ?_⟩
      rw [egood hdup z]
      exact Da.newT upd_same .nil
end
end Th
namespace Th
open PySem PySem.Spec PyProof.Rows L2
abbrev s_l_same : Stmt := topS 37
theorem sc_l_same : FnScope ["_law_got", "_law_due", "_law_k"] ["_law_got", "_law_due"] (defScope s_l_same) := ⟨rfl, rfl, rfl, by decide +kernel, rfl, by decide +kernel, by decide +kernel⟩

/-- two values of the same datum are told to be the same -/
def spSm (K : PySem.W.Frag) (n : Nat) : Sp := fun vs H Q _ => ∃ (v u : V) (d : PyData), vs = [v, u] ∧ Da K H v d ∧ Da K H u d ∧ LvN n d ∧ ∀ H', Same H H' → Q (.bl true) H'
section
variable {P : Program} {w : World} {K : PySem.W.Frag} {mg : Str → Option Value} {base : Heap}
theorem same_step (Z : Zs mg) {f : Addr} {fd : FuncData} (F : Fun K "_law_same" "_law_same" s_l_same f fd) (m_l_same : mg "_law_same" = some (.ref f)) (b_l_same : Binds K fd ["_law_got", "_law_due"] []) (k : Nat)
    (G_l_same : FnOk P w K mg base CX0 k f fd ["_law_got", "_law_due"] (spSm K k)) : FnOk P w K mg base CX0 (k + 1) f fd ["_law_got", "_law_due"] (spSm K (k + 1)) := by
  have k_l_same := F.kp
  refine F.ok sc_l_same (fun vs H Q E h => ?_) (fun cdv A outer s H vs Q E hr h => ?_)
  · obtain ⟨v, u, d, rfl, _⟩ := h
    rfl
  · obtain ⟨v, u, d, rfl, rv, ru, lv, q⟩ := h
    have lv : Lv k d := lv
    have nd := rv.nodict
    refine ⟨_, (pss_cons (ps_if (pt_val (pe_callB (show CallR _ (.builtin "isinstance") (rIsiT K) from call_isiT) (by rfl) Z.isinstance_ (by decide +kernel) (pa_cons (pv 1) (pa_cons (pe_tup (pa_cons (pe_bltn (v := .ty "list") (by rfl) Z.list_ (by decide +kernel) rfl) (pa_cons (pe_bltn (v := .ty "tuple") (by rfl) Z.tuple_ (by decide +kernel) rfl) pa_nil))) pa_nil)))) (pss_cons (ps_if (PW.pt (pw_or (pt_cmpR op_ne (pe_callB call_isi (by rfl) Z.isinstance_ (by decide +kernel) (pa_cons (pv 0) (pa_cons (pe_bltn (v := .ty "list") (by rfl) Z.list_ (by decide +kernel) rfl) pa_nil))) (pe_callB call_isi (by rfl) Z.isinstance_ (by decide +kernel) (pa_cons (pv 1) (pa_cons (pe_bltn (v := .ty "list") (by rfl) Z.list_ (by decide +kernel) rfl) pa_nil))) (nomark _)) (pw_or1 (pt_cmpR op_ne (pe_callB call_isi (by rfl) Z.isinstance_ (by decide +kernel) (pa_cons (pv 0) (pa_cons (pe_bltn (v := .ty "tuple") (by rfl) Z.tuple_ (by decide +kernel) rfl) pa_nil))) (pe_callB call_isi (by rfl) Z.isinstance_ (by decide +kernel) (pa_cons (pv 1) (pa_cons (pe_bltn (v := .ty "tuple") (by rfl) Z.tuple_ (by decide +kernel) rfl) pa_nil))) (nomark _))))) (pss_one (ps_ret pe_bl)) pss_nil) (pss_one (ps_ret (pe_and (pe_cmpR op_eq (pe_callB call_len_seq (by rfl) Z.len_ (by decide +kernel) (pa_cons (pv 0) pa_nil)) (pe_callB call_len_seq (by rfl) Z.len_ (by decide +kernel) (pa_cons (pv 1) pa_nil)) (nomark _)) (pe_one (pe_callB (cr_all rfl) (by rfl) Z.all_ (by decide +kernel) (pa_cons (pe_lc (own := [("_law_k", 2)]) (g := gName 2) (by rfl) sc_l_same.nd (pi_range1 (by rfl) Z.range_ (pa_cons (pe_callB call_len_seq (by rfl) Z.len_ (by decide +kernel) (pa_cons (pv 1) pa_nil)) pa_nil)) (blkOk_by (own := [("_law_k", 2)]) (N := ["_law_got", "_law_due", "_law_k"]) (sc := defScope s_l_same) (by decide +kernel)) (fun _ _ _ _ _ => pg_name (i := 2) sc_l_same.nd rfl (Or.inl rfl)) (fun _ _ _ _ _ => pts_nil) (fun _ _ _ _ _ => (pe_call G_l_same (hr.mono (Nat.le_refl _)) (by rfl) m_l_same k_l_same b_l_same .nil pass0 (pa_cons (pe_ix (show IxR _ (rIx K) from ix_seq) (pv 0) (pv 2) (fun _ _ => rfl)) (pa_cons (pe_ix (show IxR _ (rIx K) from ix_seq) (pv 1) (pv 2) (fun _ _ => rfl)) pa_nil))))) pa_nil))))))) pss_nil) (pss_cons (ps_if (PW.pt (pw_or (pt_cmpR op_isN (pv 1) pe_non (nomark _)) (pw_or1 (pt_cmpR op_isN (pv 0) pe_non (nomark _))))) (pss_one (ps_ret (pe_and (pe_cmpR op_isN (pv 1) pe_non (nomark _)) (pe_one (pe_cmpR op_isN (pv 0) pe_non (nomark _)))))) pss_nil) (pss_cons (ps_if (PW.pt (pw_or (pt_val (pe_callB call_isi (by rfl) Z.isinstance_ (by decide +kernel) (pa_cons (pv 1) (pa_cons (pe_bltn (v := .ty "bool") (by rfl) Z.bool_ (by decide +kernel) rfl) pa_nil)))) (pw_or1 (pt_val (pe_callB call_isi (by rfl) Z.isinstance_ (by decide +kernel) (pa_cons (pv 0) (pa_cons (pe_bltn (v := .ty "bool") (by rfl) Z.bool_ (by decide +kernel) rfl) pa_nil))))))) (pss_one (ps_ret (pe_and (pe_callB call_isi (by rfl) Z.isinstance_ (by decide +kernel) (pa_cons (pv 1) (pa_cons (pe_bltn (v := .ty "bool") (by rfl) Z.bool_ (by decide +kernel) rfl) pa_nil))) (pe_and (pe_callB call_isi (by rfl) Z.isinstance_ (by decide +kernel) (pa_cons (pv 0) (pa_cons (pe_bltn (v := .ty "bool") (by rfl) Z.bool_ (by decide +kernel) rfl) pa_nil))) (pe_one (pe_cmpR op_eq (pv 0) (pv 1) (nomark _))))))) pss_nil) (pss_cons (ps_if (pt_val (pe_callB call_isi (by rfl) Z.isinstance_ (by decide +kernel) (pa_cons (pv 1) (pa_cons (pe_bltn (v := .ty "int") (by rfl) Z.int_ (by decide +kernel) rfl) pa_nil)))) (pss_one (ps_ret (pe_and (pe_callB call_isi (by rfl) Z.isinstance_ (by decide +kernel) (pa_cons (pv 0) (pa_cons (pe_bltn (v := .ty "int") (by rfl) Z.int_ (by decide +kernel) rfl) pa_nil))) (pe_one (pe_cmpR op_eq (pv 0) (pv 1) (nomark _)))))) pss_nil) (pss_one (ps_ret (pe_and (pe_callB call_isi (by rfl) Z.isinstance_ (by decide +kernel) (pa_cons (pv 1) (pa_cons (pe_bltn (v := .ty "str") (by rfl) Z.str_ (by decide +kernel) rfl) pa_nil))) (pe_and (pe_callB call_isi (by rfl) Z.isinstance_ (by decide +kernel) (pa_cons (pv 0) (pa_cons (pe_bltn (v := .ty "str") (by rfl) Z.str_ (by decide +kernel) rfl) pa_nil))) (pe_one (pe_cmpR op_eq (pv 0) (pv 1) (nomark _))))))))))), ?_⟩
    refine ⟨_, rfl, (by show 2 ≤ sizeLine; decide), fun t nt => ⟨u, t, _, _, _, _, rfl, upd_same, .cons (.ty _) (.cons (.ty _) .nil), ty_same (same_new nt) ru.ty, kit_lt d nd, _, rfl, ?_⟩⟩
    have s0 : Same H (upd H t (.tup [.ty "list", .ty "tuple"])) := same_new nt
    generalize upd H t (.tup [.ty "list", .ty "tuple"]) = H1 at s0 ⊢
    have rv1 := rv.to s0
    have ru1 := ru.to s0
    by_cases hseq : tyD d = "list" ∨ tyD d = "tuple"
    · -- the kinds, the lengths, then the items
      rw [decide_eq_true hseq]
      refine iteT ?_
      refine ⟨_, rfl, v, _, _, _, _, rfl, .ty "list", rv1.ty, kit_ty (kit_list d nd), _, rfl, u, _, _, _, _, rfl, .ty "list", ru1.ty, kit_ty (kit_list d nd), rfl, _, rfl, ?_⟩
      refine iteNS rfl ?_
      refine ⟨_, rfl, v, _, _, _, _, rfl, .ty "tuple", rv1.ty, kit_ty (kit_tuple d nd), _, rfl, u, _, _, _, _, rfl, .ty "tuple", ru1.ty, kit_ty (kit_tuple d nd), rfl, _, rfl, ?_⟩
      refine iteNS rfl ?_
      obtain ⟨p, r, xs, ys, ds, rfl, rfl, hp, hr2, rx, ry, hl, lvx⟩ := da_two rv1 ru1 hseq lv
      have l1 := rx.len
      have l2 := ry.len
      refine ⟨_, rfl, p, xs, rfl, hp, _, rfl, r, ys, rfl, hr2, rfl, _, rfl, ?_⟩
      refine ite2 (fun _ => ?_) (fun z => absurd (decide_eq_true (by rw [l1, l2])) z)
      refine ⟨_, rfl, r, ys, rfl, hr2, _, rfl, by omega, by omega, fun L nL => ?_⟩
      refine lc_range (lo := 0) (n := (ys.length : Int).toNat) (fun i H2 => Same H1 H2 ∧ H2 L = some (.lst ((List.replicate i true).map V.bl))) ⟨same_new nL, upd_same⟩ ?_ ?_
      · rintro i H2 hi ⟨s2, e2⟩
        have hi' : i < ys.length := by omega
        obtain ⟨x, hx⟩ : ∃ x, xs[i]? = some x := ⟨_, List.getElem?_eq_getElem (by omega)⟩
        obtain ⟨y, hy⟩ : ∃ y, ys[i]? = some y := ⟨_, List.getElem?_eq_getElem hi'⟩
        obtain ⟨e, he, re⟩ := rx.at hx
        obtain ⟨e', he', re'⟩ := ry.at hy
        rw [he] at he'
        cases he'
        refine ⟨rfl, _, rfl, _, rfl, ix_any (sq_any s2 hp) hx ⟨_, rfl, _, rfl, ix_any (sq_any s2 hr2) hy ⟨x, y, e, rfl, re.to s2, re'.to s2, lvx e (List.mem_of_getElem? he), fun H3 s3 => ?_⟩⟩⟩
        refine ⟨_, s3 _ _ e2, slineL (by rw [List.length_map, List.length_replicate]; omega), same_mut (s2.trans s3) nL, ?_⟩
        rw [upd_same, List.replicate_succ', List.map_append]
        rfl
      · rintro H2 ⟨s2, e2⟩
        refine ⟨L, _, rfl, .inl (.inl e2), ?_⟩
        have ea : (List.replicate (ys.length : Int).toNat true).all id = true := by
          rw [List.all_eq_true]
          intro b hb
          exact (List.mem_replicate.mp hb).2
        rw [ea]
        exact q H2 (s0.trans s2)
    rw [decide_eq_false hseq]
    refine iteF ?_
    have fin := q H1 s0
    cases d with
    | list ds => exact absurd (.inl rfl) hseq
    | tuple ds => exact absurd (.inr rfl) hseq
    | dict kvs => exact absurd rfl nd
    | none =>
      cases rv1
      cases ru1
      refine ⟨_, rfl, rfl, _, rfl, iteT ?_⟩
      exact ⟨_, rfl, rfl, _, rfl, iteT ⟨_, rfl, rfl, fin⟩⟩
    | bool b =>
      have hv : v = .bl b := by cases rv; rfl
      have hu : u = .bl b := by cases ru; rfl
      subst hv hu
      refine ⟨_, rfl, rfl, _, rfl, iteF ?_⟩
      refine ⟨_, rfl, rfl, _, rfl, iteF ?_⟩
      refine ⟨_, rfl, _, _, _, _, _, rfl, .ty "bool", ru1.ty, kit_ty (kit_bool _ nd), _, rfl, iteT ?_⟩
      refine ⟨_, rfl, _, _, _, _, _, rfl, .ty "bool", ru1.ty, kit_ty (kit_bool _ nd), _, rfl, iteT ?_⟩
      refine ⟨_, rfl, _, _, _, _, _, rfl, .ty "bool", rv1.ty, kit_ty (kit_bool _ nd), _, rfl, iteT ?_⟩
      refine ⟨_, rfl, _, rfl, rfl, ?_⟩
      rw [decide_eq_true rfl]
      exact fin
    | int b =>
      have hv : v = .int b := by cases rv; rfl
      have hu : u = .int b := by cases ru; rfl
      subst hv hu
      refine ⟨_, rfl, rfl, _, rfl, iteF ?_⟩
      refine ⟨_, rfl, rfl, _, rfl, iteF ?_⟩
      refine ⟨_, rfl, _, _, _, _, _, rfl, .ty "bool", ru1.ty, kit_ty (kit_bool _ nd), _, rfl, iteF ?_⟩
      refine ⟨_, rfl, _, _, _, _, _, rfl, .ty "bool", rv1.ty, kit_ty (kit_bool _ nd), _, rfl, iteF ?_⟩
      refine ⟨_, rfl, _, _, _, _, _, rfl, .ty "int", ru1.ty, kit_ty (kit_int _ nd), _, rfl, iteT ?_⟩
      refine ⟨_, rfl, _, _, _, _, _, rfl, .ty "int", rv1.ty, kit_ty (kit_int _ nd), _, rfl, iteT ?_⟩
      refine ⟨_, rfl, _, rfl, rfl, ?_⟩
      rw [decide_eq_true rfl]
      exact fin
    | str b =>
      have hv : v = .str b := by cases rv; rfl
      have hu : u = .str b := by cases ru; rfl
      subst hv hu
      refine ⟨_, rfl, rfl, _, rfl, iteF ?_⟩
      refine ⟨_, rfl, rfl, _, rfl, iteF ?_⟩
      refine ⟨_, rfl, _, _, _, _, _, rfl, .ty "bool", ru1.ty, kit_ty (kit_bool _ nd), _, rfl, iteF ?_⟩
      refine ⟨_, rfl, _, _, _, _, _, rfl, .ty "bool", rv1.ty, kit_ty (kit_bool _ nd), _, rfl, iteF ?_⟩
      refine ⟨_, rfl, _, _, _, _, _, rfl, .ty "int", ru1.ty, kit_ty (kit_int _ nd), _, rfl, iteF ?_⟩
      refine ⟨_, rfl, _, _, _, _, _, rfl, .ty "str", ru1.ty, kit_ty (kit_str _ nd), _, rfl, iteT ?_⟩
      refine ⟨_, rfl, _, _, _, _, _, rfl, .ty "str", rv1.ty, kit_ty (kit_str _ nd), _, rfl, iteT ?_⟩
      refine ⟨_, rfl, _, rfl, rfl, ?_⟩
      rw [decide_eq_true rfl]
      exact fin
theorem has_l_same (Z : Zs mg) (A : At K mg "_law_same" s_l_same ["_law_got", "_law_due"]) : Has P w K mg base "_law_same" s_l_same 8 ["_law_got", "_law_due"] (spSm K 8) := by
  obtain ⟨f, fd, F, mg1, bd⟩ := A
  refine ⟨f, fd, ?_, mg1, F.kp, bd, F⟩
  have G0 : FnOk P w K mg base CX0 0 f fd ["_law_got", "_law_due"] (spSm K 0) := ⟨fun vs H Q E h => by obtain ⟨v, u, d, rfl, _⟩ := h; rfl, fun A outer s H args us vs Q E hr he hb hv hs => by obtain ⟨v, u, d, rfl, _, _, z, _⟩ := hs; exact z.elim⟩
  exact same_step Z F mg1 bd 7 (same_step Z F mg1 bd 6 (same_step Z F mg1 bd 5 (same_step Z F mg1 bd 4 (same_step Z F mg1 bd 3 (same_step Z F mg1 bd 2 (same_step Z F mg1 bd 1 (same_step Z F mg1 bd 0 G0)))))))
end

theorem wk_l_same {P : Program} {w : World} {K : PySem.W.Frag} {mg : Str → Option Value} {base : Heap} (h : Has P w K mg base "_law_same" s_l_same 8 ["_law_got", "_law_due"] (spSm K 8)) : Has P w K mg base "_law_same" s_l_same 8 ["_law_got", "_law_due"] (spSm K 6) := by
  obtain ⟨f, fd, G, r⟩ := h
  exact ⟨f, fd, G.imp fun vs H Q E z => by
    obtain ⟨v, u, d, e, r1, r2, lv, q⟩ := z
    exact ⟨v, u, d, e, r1, r2, (show Lv 5 d from lv).up.up, q⟩, r⟩
end Th
namespace Th
open PySem PySem.Spec PyProof.Rows L2
abbrev s_c_Table_finds : Stmt := inClass (topS 24) 1
theorem sc_c_Table_finds : FnScope ["self"] ["self"] (defScope s_c_Table_finds) := ⟨rfl, rfl, rfl, by decide +kernel, rfl, by decide +kernel, by decide +kernel⟩
/-- what a table's rows are: names, names each once, few -/
structure TabFit (hs : List (Str × List Str)) : Prop where
  nm : ∀ p ∈ hs, isNm p.1 = true
  ks : ∀ p ∈ hs, Nms p.2
  few : hs.length ≤ 12
  kl : (allK hs).length ≤ 10
  nd : (hs.map (·.1)).Nodup
theorem TabFit.short {hs : List (Str × List Str)} (h : TabFit hs) : ∀ p ∈ hs, p.2.length ≤ 10 := fun p hp =>
  Nat.le_trans (nodup_sub (h.ks p hp).1 fun x hx => allK_mem.mpr ⟨p, hp, hx⟩) h.kl
theorem allK_same {rs hs : List (Str × List Str)} (h : ∀ x, (∃ p ∈ hs, x ∈ p.2) ↔ ∃ p ∈ rs, x ∈ p.2) : (allK hs).Perm (allK rs) :=
  (List.perm_ext_iff_of_nodup (allK_nodup _) (allK_nodup _)).mpr fun x => by rw [allK_mem, allK_mem]; exact h x
theorem nd_inj {rs : List (Str × List Str)} (nd : (rs.map (·.1)).Nodup) {p q : Str × List Str} (hp : p ∈ rs) (hq : q ∈ rs) (e : p.1 = q.1) : p = q := by
  induction rs with
  | nil => cases hp
  | cons a r ih =>
    rw [List.map_cons, List.nodup_cons] at nd
    rcases List.mem_cons.mp hp with e1 | hp
    · rcases List.mem_cons.mp hq with e2 | hq
      · rw [e1, e2]
      · exact absurd (List.mem_map.mpr ⟨q, hq, by rw [← e, e1]⟩) nd.1
    · rcases List.mem_cons.mp hq with e2 | hq
      · exact absurd (List.mem_map.mpr ⟨p, hp, by rw [e, e2]⟩) nd.1
      · exact ih nd.2 hp hq
/-- the table of some rows has the rows' kinds -/
theorem TabOf.kinds {rs hs : List (Str × List Str)} (h : TabOf rs hs) (nd : (rs.map (·.1)).Nodup) : (allK hs).Perm (allK rs) := allK_same fun x => by
  constructor
  · rintro ⟨p, hp, hx⟩
    obtain ⟨q, hq, _, pm, _⟩ := h.ks p hp
    exact ⟨q, hq, pm.mem_iff.mp hx⟩
  · rintro ⟨q, hq, hx⟩
    obtain ⟨p, hp, e⟩ := List.mem_map.mp (h.pm.mem_iff.mpr (List.mem_map.mpr ⟨q, hq, rfl⟩))
    obtain ⟨q', hq', e', pm, _⟩ := h.ks p hp
    have : q' = q := nd_inj nd hq' hq (e'.trans e)
    subst this
    exact ⟨p, hp, pm.mem_iff.mpr hx⟩
theorem TabOf.fit {ds : List PyData} {hs : List (Str × List Str)} (h : TabOf (ds.map rowP) hs) (hl : ds.length ≤ 12) (hr : ∀ e ∈ ds, rowD e = true) (nd : (ds.map markOf).Nodup) (hk : (allK (ds.map rowP)).length ≤ 10) : TabFit hs := by
  have nd' : ((ds.map rowP).map (·.1)).Nodup := by
    rw [List.map_map]
    exact nd
  have hq : ∀ p ∈ hs, ∃ e ∈ ds, (rowP e).1 = p.1 ∧ p.2.Perm (rowP e).2 := fun p hp => by
    obtain ⟨q, hq, e, pm, _⟩ := h.ks p hp
    obtain ⟨e0, he0, rfl⟩ := List.mem_map.mp hq
    exact ⟨e0, he0, e, pm⟩
  refine ⟨fun p hp => ?_, fun p hp => ?_, ?_, ?_, ?_⟩
  · obtain ⟨e0, he0, e, pm⟩ := hq p hp
    obtain ⟨m, l, ks, rfl, nm, _, nk, hp2, _⟩ := row_shape (hr e0 he0)
    rw [← e, hp2]
    exact nm
  · obtain ⟨e0, he0, e, pm⟩ := hq p hp
    obtain ⟨m, l, ks, rfl, nm, _, nk, hp2, _⟩ := row_shape (hr e0 he0)
    rw [hp2] at pm
    exact ⟨pm.nodup_iff.mpr nk.1, fun x hx => nk.2 x (pm.mem_iff.mp hx)⟩
  · have := h.pm.length_eq
    rw [List.length_map, List.length_map, List.length_map] at this
    omega
  · rw [(h.kinds nd').length_eq]
    exact hk
  · exact h.pm.nodup_iff.mpr nd'

/-- the finds of a table, in a new list -/
def spTFinds (K : PySem.W.Frag) (C : Addr) : Sp := fun vs H Q _ => ∃ (b : Addr) (hs : List (Str × List Str)), vs = [.ref b] ∧ TabW K H C b hs ∧ ∀ r, H r = none → Q (.ref r) (upd H r (.lst ((hs.map (·.1)).map V.str)))
theorem Held.kvs {H : Hp} {kvs : List (Key × V)} {hs : List (Str × List Str)} (h : Held H kvs hs) : (kvs.map fun kv => kV kv.1) = (hs.map (·.1)).map V.str := by
  have e := congrArg (List.map kV) h.keys
  rw [List.map_map, List.map_map] at e
  exact e
section
variable {P : Program} {w : World} {K : PySem.W.Frag} {mg : Str → Option Value} {base : Heap} {CB CT : Addr}
theorem has_c_Table_finds {f : Addr} {fd : FuncData} {dvs : List V} (Z : Zs mg) (BT : ClsF K mg CT "Table" ["_held"]) (F : FunD K "finds" "Table.finds" (defArgs s_c_Table_finds) (defBody s_c_Table_finds) (defScope s_c_Table_finds) dvs [] f fd) : FnOk P w K mg base (L2.CX P w) 1 f fd ["self"] (spTFinds K CT) := by
  refine F.ok (CX := L2.CX P w) sc_c_Table_finds (fun vs H Q E h => ?_) (fun cdv A outer s H vs Q E hr h => ?_)
  · obtain ⟨b, hs, rfl, _⟩ := h
    rfl
  · obtain ⟨b, hs, rfl, tb, q⟩ := h
    refine ⟨_, (pss_one (ps_ret (pe_callTy (call_list_dK rfl) (by rfl) Z.list_ (by decide +kernel) (pa_cons (pe_fld (pv 0) rfl) pa_nil)))), ?_⟩
    obtain ⟨dx, da, kvs, e1, e2, e3⟩ := tb.ex
    exact ⟨_, rfl, b, CT, dx, _, _, rfl, e1, BT.cl, BT.na _ (by decide), tb_h _, da, kvs, rfl, e2, fun r nr => by rw [e3.kvs]; exact q r nr⟩
end
end Th
namespace Th
open PySem PySem.Spec PyProof.Rows L2
abbrev s_c_Table_contains : Stmt := inClass (topS 24) 8
theorem sc_c_Table_contains : FnScope ["self", "name"] ["self", "name"] (defScope s_c_Table_contains) := ⟨rfl, rfl, rfl, by decide +kernel, rfl, by decide +kernel, by decide +kernel⟩
/-- whether a table has a find -/
def spTHas (K : PySem.W.Frag) (C : Addr) : Sp := fun vs H Q _ => ∃ (b : Addr) (hs : List (Str × List Str)) (v : V) (d : PyData), vs = [.ref b, v] ∧ TabW K H C b hs ∧ TabFit hs ∧ Da K H v d ∧ Lv 5 d ∧ ∀ H', Same H H' → Q (.bl (inNm d (hs.map (·.1)))) H'
section
variable {P : Program} {w : World} {K : PySem.W.Frag} {mg : Str → Option Value} {base : Heap} {CB CT : Addr}
theorem has_c_Table_contains {f : Addr} {fd : FuncData} {dvs : List V} (Z : Zs mg) (BT : ClsF K mg CT "Table" ["_held"]) (F : FunD K "__contains__" "Table.__contains__" (defArgs s_c_Table_contains) (defBody s_c_Table_contains) (defScope s_c_Table_contains) dvs [] f fd) (h_p_is_name : Has P w K mg base "is_name" s_p_is_name 1 ["value"] (spJ K 5 nmD)) : FnOk P w K mg base (L2.CX P w) 3 f fd ["self", "name"] (spTHas K CT) := by
  obtain ⟨f_p_is_name, fd_p_is_name, G_p_is_name, m_p_is_name, k_p_is_name, b_p_is_name, F_p_is_name⟩ := h_p_is_name
  refine F.ok (CX := L2.CX P w) sc_c_Table_contains (fun vs H Q E h => ?_) (fun cdv A outer s H vs Q E hr h => ?_)
  · obtain ⟨b, hs, v, d, rfl, _⟩ := h
    rfl
  · obtain ⟨b, hs, v, d, rfl, tb, ft, rd, lv, q⟩ := h
    refine ⟨_, (pss_one (ps_ret (pe_and (pe_call G_p_is_name (hr.mono (by decide)) (by rfl) m_p_is_name k_p_is_name b_p_is_name .nil pass0 (pa_cons (pv 1) pa_nil)) (pe_one (pe_cmpR (op_inK (hu65 hr)) (pv 1) (pe_fld (pv 0) rfl) (by rfl)))))), ?_⟩
    obtain ⟨dx, da, kvs, e1, e2, e3⟩ := tb.ex
    refine ⟨_, rfl, v, d, rfl, rd, lv, fun H1 s1 => ⟨_, rfl, ?_⟩⟩
    cases hn : nmD d with
    | false =>
      rw [if_neg Bool.false_ne_true]
      have z : inNm d (hs.map (·.1)) = false := by
        cases d with
        | str x =>
          refine decide_eq_false fun hx => ?_
          obtain ⟨p, hp, rfl⟩ := List.mem_map.mp hx
          have := ft.nm p hp
          rw [show nmD (.str p.1) = isNm p.1 from rfl, this] at hn
          cases hn
        | _ => rfl
      rw [← z]
      exact q H1 s1
    | true =>
      rw [if_pos rfl]
      cases d with
      | str x =>
        cases rd
        refine ⟨_, rfl, _, rfl, b, CT, dx, _, _, rfl, s1 _ _ e1, BT.cl, BT.na _ (by decide), tb_h _, x, da, kvs, rfl, rfl, s1 _ _ e2, ?_⟩
        rw [e3.isSome ft.nd x]
        exact q H1 s1
      | _ => cases hn
end
end Th
namespace Th
open PySem PySem.Spec PyProof.Rows L2
abbrev s_p_copied : Stmt := topS 2
theorem sc_p_copied : FnScope ["value", "item"] ["value"] (defScope s_p_copied) := ⟨rfl, rfl, rfl, by decide +kernel, rfl, by decide +kernel, by decide +kernel⟩

/-- a copy of data: what is hidden stays out of it -/
def spCopy (K : PySem.W.Frag) (n : Nat) : Sp := fun vs H Q _ => ∃ (v : V) (d : PyData) (S : Addr → Prop), vs = [v] ∧ (∀ b, S b → H b ≠ none) ∧ Da K (hidS S H) v d ∧ LvN n d ∧ ∀ v' H', Same H H' → Da K (hidS S H') v' d → Q v' H'
section
variable {P : Program} {w : World} {K : PySem.W.Frag} {mg : Str → Option Value} {base : Heap}
theorem copied_step (Z : Zs mg) {f : Addr} {fd : FuncData} (F : Fun K "copied" "copied" s_p_copied f fd) (m_p_copied : mg "copied" = some (.ref f)) (b_p_copied : Binds K fd ["value"] []) (k : Nat)
    (G_p_copied : FnOk P w K mg base CX0 k f fd ["value"] (spCopy K k)) : FnOk P w K mg base CX0 (k + 1) f fd ["value"] (spCopy K (k + 1)) := by
  have k_p_copied := F.kp
  refine F.ok sc_p_copied (fun vs H Q E h => ?_) (fun cdv A outer s H vs Q E hr h => ?_)
  · obtain ⟨v, d, S, rfl, _⟩ := h
    rfl
  · obtain ⟨v, d, S, rfl, hS, rv, lv, q⟩ := h
    have nd := rv.nodict
    have rH := rv.to hidS_same
    refine ⟨_, (pss_cons (ps_if (pt_val (pe_callB call_isi (by rfl) Z.isinstance_ (by decide +kernel) (pa_cons (pv 0) (pa_cons (pe_bltn (v := .ty "list") (by rfl) Z.list_ (by decide +kernel) rfl) pa_nil)))) (pss_one (ps_ret (pe_lc (own := [("item", 1)]) (g := gName 1) (by rfl) sc_p_copied.nd (pi_list (pv 0)) (blkOk_by (own := [("item", 1)]) (N := ["value", "item"]) (sc := defScope s_p_copied) (by decide +kernel)) (fun _ _ _ _ _ => pg_name (i := 1) sc_p_copied.nd rfl (Or.inl rfl)) (fun _ _ _ _ _ => pts_nil) (fun _ _ _ _ _ => (pe_call G_p_copied (hr.mono (Nat.le_refl _)) (by rfl) m_p_copied k_p_copied b_p_copied .nil pass0 (pa_cons (pv 1) pa_nil)))))) pss_nil) (pss_cons (ps_if (pt_val (pe_callB call_isi (by rfl) Z.isinstance_ (by decide +kernel) (pa_cons (pv 0) (pa_cons (pe_bltn (v := .ty "tuple") (by rfl) Z.tuple_ (by decide +kernel) rfl) pa_nil)))) (pss_one (ps_ret (pe_callTy call_tuple_of (by rfl) Z.tuple_ (by decide +kernel) (pa_cons (pe_lc (own := [("item", 1)]) (g := gName 1) (by rfl) sc_p_copied.nd (pi_tup (pv 0)) (blkOk_by (own := [("item", 1)]) (N := ["value", "item"]) (sc := defScope s_p_copied) (by decide +kernel)) (fun _ _ _ _ _ => pg_name (i := 1) sc_p_copied.nd rfl (Or.inl rfl)) (fun _ _ _ _ _ => pts_nil) (fun _ _ _ _ _ => (pe_call G_p_copied (hr.mono (Nat.le_refl _)) (by rfl) m_p_copied k_p_copied b_p_copied .nil pass0 (pa_cons (pv 1) pa_nil)))) pa_nil)))) pss_nil) (pss_one (ps_ret (pv 0))))), ?_⟩
    have lv : Lv k d := lv
    -- a comprehension over the items copies each
    have walk : ∀ (L : Addr) (xs : List V) (ds : List PyData), H L = none → DaAll K (hidS S H) xs ds → (∀ x ∈ ds, LvN k x) → xs.length ≤ 60 → ∀ (i : Nat) (y : V) (H2 : Hp), xs[i]? = some y →
        (∃ ys, Same H H2 ∧ H2 L = some (.lst ys) ∧ ys.length = i ∧ DaAll K (hidS (fun b => S b ∨ b = L) H2) ys (ds.take i)) →
        spCopy K k ([y] ++ []) H2 (fun v' H3 => ∃ zs, H3 L = some (.lst zs) ∧ zs.length < sizeLine ∧ ∃ ys, Same H (upd H3 L (.lst (zs ++ [v']))) ∧ upd H3 L (.lst (zs ++ [v'])) L = some (.lst ys) ∧ ys.length = i + 1 ∧ DaAll K (hidS (fun b => S b ∨ b = L) (upd H3 L (.lst (zs ++ [v'])))) ys (ds.take (i + 1))) E0 := by
      rintro L xs ds nL rx lvx lx i y H2 hi ⟨ys, s2, e2, hy, ry⟩
      obtain ⟨e, he, re⟩ := rx.at hi
      refine ⟨y, e, fun b => S b ∨ b = L, rfl, fun b hb => ?_, re.to (hidS_more s2 nL), lvx e (List.mem_of_getElem? he), fun v' H3 s3 rv' => ?_⟩
      · rcases hb with hb | rfl
        · cases e1 : H b with
          | none => exact absurd e1 (hS b hb)
          | some o => rw [s2 b o e1]; exact fun z => nomatch z
        · rw [e2]; exact fun z => nomatch z
      · refine ⟨ys, s3 _ _ e2, slineL (by have := lt_of_get hi; omega), ys ++ [v'], same_mut (s2.trans s3) nL, upd_same, by rw [List.length_append, hy]; rfl, ?_⟩
        rw [hidS_upd, List.take_add_one, he]
        exact (ry.to (hidS_mono s3)).app (.cons rv' .nil)
    by_cases hl : tyD d = "list"
    · cases d with
      | none => exact absurd (show ("NoneType" : String) = "list" from hl) (by decide)
      | bool b => exact absurd (show ("bool" : String) = "list" from hl) (by decide)
      | int b => exact absurd (show ("int" : String) = "list" from hl) (by decide)
      | str b => exact absurd (show ("str" : String) = "list" from hl) (by decide)
      | tuple ds => exact absurd (show ("tuple" : String) = "list" from hl) (by decide)
      | dict kvs => exact absurd rfl nd
      | list ds =>
        obtain ⟨lvl, lvx⟩ := lvn_list lv
        cases rv with
        | @lst p xs _ hp ht rx =>
        have hp' := hidS_same.seq hp
        have lx : xs.length ≤ 60 := by rw [rx.len]; exact lvl
        refine ⟨_, rfl, _, _, _, _, _, rfl, .ty "list", rH.ty, kit_ty (kit_list _ nd), _, rfl, iteT ?_⟩
        refine ⟨_, rfl, p, rfl, ⟨_, hp'⟩, fun L nL => ?_⟩
        have nS : ¬ S L := fun z => hS L z nL
        refine lc_list (K := K) (a := p) (xs := xs) (fun i H2 => ∃ ys, Same H H2 ∧ H2 L = some (.lst ys) ∧ ys.length = i ∧ DaAll K (hidS (fun b => S b ∨ b = L) H2) ys (ds.take i)) ⟨[], same_new nL, upd_same, rfl, .nil⟩ (fun i H2 _ ⟨_, s2, _⟩ => s2.seq hp') ?_ ?_
        · intro i y H2 hi w2
          have step := walk L xs ds nL rx lvx lx i y H2 hi w2
          refine ⟨rfl, _, rfl, ?_⟩
          exact step
        · rintro H2 ⟨ys, s2, e2, hy, ry⟩
          rw [rx.len, List.take_length] at ry
          refine q _ _ s2 (Da.newL (by rw [hidS_out nS]; exact e2) (ry.to hidS_less))
    refine ⟨_, rfl, _, _, _, _, _, rfl, .ty "list", rH.ty, kit_ty (kit_list _ nd), _, rfl, ?_⟩
    rw [decide_eq_false hl]
    refine iteF ?_
    by_cases ht : tyD d = "tuple"
    · cases d with
      | none => exact absurd (show ("NoneType" : String) = "tuple" from ht) (by decide)
      | bool b => exact absurd (show ("bool" : String) = "tuple" from ht) (by decide)
      | int b => exact absurd (show ("int" : String) = "tuple" from ht) (by decide)
      | str b => exact absurd (show ("str" : String) = "tuple" from ht) (by decide)
      | list ds => exact absurd (show ("list" : String) = "tuple" from ht) (by decide)
      | dict kvs => exact absurd rfl nd
      | tuple ds =>
        obtain ⟨lvl, lvx⟩ := lvn_tuple lv
        cases rv with
        | @tup p xs _ hp hty rx =>
        have hp' := same_t hidS_same hp
        have lx : xs.length ≤ 60 := by rw [rx.len]; exact lvl
        refine ⟨_, rfl, _, _, _, _, _, rfl, .ty "tuple", rH.ty, kit_ty (kit_tuple _ nd), _, rfl, iteT ?_⟩
        refine ⟨_, rfl, p, rfl, ⟨_, hp'⟩, fun L nL => ?_⟩
        refine lc_tup (K := K) (a := p) (xs := xs) (fun i H2 => ∃ ys, Same H H2 ∧ H2 L = some (.lst ys) ∧ ys.length = i ∧ DaAll K (hidS (fun b => S b ∨ b = L) H2) ys (ds.take i)) ⟨[], same_new nL, upd_same, rfl, .nil⟩ (fun i H2 _ ⟨_, s2, _⟩ => same_t s2 hp') ?_ ?_
        · intro i y H2 hi w2
          have step := walk L xs ds nL rx lvx lx i y H2 hi w2
          refine ⟨rfl, _, rfl, ?_⟩
          exact step
        · rintro H2 ⟨ys, s2, e2, hy, ry⟩
          rw [rx.len, List.take_length] at ry
          refine ⟨L, ys, rfl, .inl ⟨.inl (.inl e2), fun r nr => ?_⟩⟩
          have s3 := same_new (o := .tup ys) nr
          have nSr : ¬ S r := fun z => by
            have h1 := hS r z
            cases e1 : H r with
            | none => exact h1 e1
            | some o => rw [s2 r o e1] at nr; cases nr
          refine q _ _ (s2.trans s3) (Da.newT (by rw [hidS_out nSr]; exact upd_same) ((ry.to hidS_less).to (hidS_mono s3)))
    refine ⟨_, rfl, _, _, _, _, _, rfl, .ty "tuple", rH.ty, kit_ty (kit_tuple _ nd), _, rfl, ?_⟩
    rw [decide_eq_false ht]
    refine iteF ?_
    exact ⟨_, rfl, q _ _ (Same.refl _) rv⟩
theorem has_p_copied (Z : Zs mg) (A : At K mg "copied" s_p_copied ["value"]) : Has P w K mg base "copied" s_p_copied 6 ["value"] (spCopy K 6) := by
  obtain ⟨f, fd, F, mg1, bd⟩ := A
  refine ⟨f, fd, ?_, mg1, F.kp, bd, F⟩
  have G0 : FnOk P w K mg base CX0 0 f fd ["value"] (spCopy K 0) := ⟨fun vs H Q E h => by obtain ⟨v, d, S, rfl, _⟩ := h; rfl, fun A outer s H args us vs Q E hr he hb hv hs => by obtain ⟨v, d, S, rfl, _, _, z, _⟩ := hs; exact z.elim⟩
  exact copied_step Z F mg1 bd 5 (copied_step Z F mg1 bd 4 (copied_step Z F mg1 bd 3 (copied_step Z F mg1 bd 2 (copied_step Z F mg1 bd 1 (copied_step Z F mg1 bd 0 G0)))))
end
end Th
namespace Th
open PySem PySem.Spec PyProof.Rows L2
abbrev s_c_UnknownFind_init : Stmt := inClass (topS 10) 0
theorem sc_c_UnknownFind_init : FnScope ["self", "name"] ["self", "name"] (defScope s_c_UnknownFind_init) := ⟨rfl, rfl, rfl, by decide +kernel, rfl, by decide +kernel, by decide +kernel⟩

section
variable {P : Program} {w : World} {K : PySem.W.Frag} {mg : Str → Option Value} {base : Heap} {CB CT : Addr}
theorem has_c_UnknownFind_init {fI : Addr} {fd : FuncData} (Z : Zs mg) (F : Fun K "__init__" "UnknownFind.__init__" s_c_UnknownFind_init fI fd) (h_p_copied : Has P w K mg base "copied" s_p_copied 6 ["value"] (spCopy K 6)) : FnOk P w K mg base CX0 7 fI fd ["self", "name"] (spInit1 K "UnknownFind" "name" 6) := by
  obtain ⟨f_p_copied, fd_p_copied, G_p_copied, m_p_copied, k_p_copied, b_p_copied, F_p_copied⟩ := h_p_copied
  refine F.ok sc_c_UnknownFind_init (fun vs H Q E h => ?_) (fun cdv A outer s H vs Q E hr h => ?_)
  · obtain ⟨a, C, v, d, rfl, _⟩ := h
    rfl
  · obtain ⟨a, C, v, d, rfl, G, n1, n2, ea, rv, lv, q⟩ := h
    refine ⟨_, (pss_cons (ps_put (pv 0) (pe_call G_p_copied (hr.mono (by decide)) (by rfl) m_p_copied k_p_copied b_p_copied .nil pass0 (pa_cons (pv 1) pa_nil))) (pss_one (ps_put (pv 0) pe_str))), ?_⟩
    refine ⟨_, rfl, v, d, fun b => b = a, rfl, fun b hb => (by rw [hb, ea]; exact fun z => nomatch z), rv.kd fun b o e p => ?_, lv, fun v' H1 s1 rv' => ?_⟩
    · rw [hidS_out fun z => ?_]
      · exact e
      · rw [z, ea] at e
        exact p.1 _ (Option.some.inj e).symm
    · have ea1 := s1 _ _ ea
      refine ⟨_, rfl, a, C, rfl, G, n1, .inl ⟨ea1, fun dx nd ne => ?_⟩⟩
      refine ⟨_, rfl, a, C, rfl, G, n2, .inr ⟨dx, [("name", v')], upd_same, ?_, (by show 1 ≤ 900; decide), ?_⟩⟩
      · rw [upd_ne ne]; exact upd_same
      · exact q H1 v' dx s1 (rv'.to hidS_same) nd ne
end
end Th
namespace Th
open PySem PySem.Spec PyProof.Rows L2
abbrev s_c_Table_kinds_of : Stmt := inClass (topS 24) 3
theorem sc_c_Table_kinds_of : FnScope ["self", "name"] ["self", "name"] (defScope s_c_Table_kinds_of) := ⟨rfl, rfl, rfl, by decide +kernel, rfl, by decide +kernel, by decide +kernel⟩
/-- the kinds of a find, in a new list, or an error -/
def spTOf (K : PySem.W.Frag) (mg : Str → Option Value) (C : Addr) : Sp := fun vs H Q E => ∃ (b : Addr) (hs : List (Str × List Str)) (v : V) (d : PyData), vs = [.ref b, v] ∧ TabW K H C b hs ∧ TabFit hs ∧ Da K H v d ∧ Lv 5 d ∧
  (∀ p, p ∈ hs → d = .str p.1 → ∀ r H', Same H H' → H r = none → H' r = some (.lst (p.2.map V.str)) → Q (.ref r) H') ∧
  (inNm d (hs.map (·.1)) = false → ∀ cls dd v' H', Same H H' → IsExc K mg "UnknownFind" [("code", .str "UnknownFind"), ("name", v')] cls dd H' → Da K H' v' d → E cls dd H')
section
variable {P : Program} {w : World} {K : PySem.W.Frag} {mg : Str → Option Value} {base : Heap} {CB CT : Addr}
theorem has_c_Table_kinds_of {f : Addr} {fd : FuncData} {dvs : List V} (Z : Zs mg) (BT : ClsF K mg CT "Table" ["_held"]) (F : FunD K "kinds_of" "Table.kinds_of" (defArgs s_c_Table_kinds_of) (defBody s_c_Table_kinds_of) (defScope s_c_Table_kinds_of) dvs [] f fd) (h_c_Table_contains : HasM P w K mg base CT "__contains__" 3 ["self", "name"] (spTHas K CT)) (h_c_UnknownFind_init : HasE P w K mg base "UnknownFind" "UnknownFind.__init__" s_c_UnknownFind_init ["self", "name"] ["name", "code"] 7 (spInit1 K "UnknownFind" "name" 6)) : FnOk P w K mg base (L2.CX P w) 9 f fd ["self", "name"] (spTOf K mg CT) := by
  obtain ⟨f_c_Table_contains, fd_c_Table_contains, ME_c_Table_contains, G_c_Table_contains, b_c_Table_contains⟩ := h_c_Table_contains
  obtain ⟨C_c_UnknownFind_init, fI_c_UnknownFind_init, fd_c_UnknownFind_init, E_c_UnknownFind_init, G_c_UnknownFind_init⟩ := h_c_UnknownFind_init
  refine F.ok (CX := L2.CX P w) sc_c_Table_kinds_of (fun vs H Q E h => ?_) (fun cdv A outer s H vs Q E hr h => ?_)
  · obtain ⟨b, hs, v, d, rfl, _⟩ := h
    rfl
  · obtain ⟨b, hs, v, d, rfl, tb, ft, rd, lv, q1, q2⟩ := h
    refine ⟨_, (pss_cons (ps_if (pt_cmpR (op_notInOwn ME_c_Table_contains G_c_Table_contains (hr.mono (by decide)) b_c_Table_contains (passes_call (takes_of rfl rfl rfl rfl) fun _ _ _ _ h => h)) (pv 1) (pv 0) (by rfl)) (pss_one (ps_raise rfl (takes_of rfl rfl rfl rfl) (pmk_new E_c_UnknownFind_init.g E_c_UnknownFind_init.ini E_c_UnknownFind_init.tI G_c_UnknownFind_init (hr.mono (by decide)) E_c_UnknownFind_init.b (by rfl) E_c_UnknownFind_init.m (pa_cons (pv 1) pa_nil)))) pss_nil) (pss_one (ps_ret (pe_callTy call_list_of (by rfl) Z.list_ (by decide +kernel) (pa_cons (pe_dget (hu_of hr) (show PE _ _ (tFld K _ _) from pe_fld (pv 0) rfl) (pv 1) (fun _ _ => rfl)) pa_nil))))), ?_⟩
    obtain ⟨dx, da, kvs, e1, e2, e3⟩ := tb.ex
    refine ⟨_, rfl, _, rfl, b, dx, _, rfl, e1, b, hs, v, d, rfl, tb, ft, rd, lv, fun H1 s1 => ⟨_, rfl, _, rfl, ?_⟩⟩
    rw [if_pos rfl]
    cases hin : inNm d (hs.map (·.1)) with
    | false =>
      refine iteT ?_
      refine ⟨_, rfl, ?_⟩
      exact new1 E_c_UnknownFind_init (by decide) (by decide) (rd.to s1) lv fun cls dd v' H' s e' r => q2 hin cls dd v' H' (s1.trans s) e' r
    | true =>
      refine iteF ?_
      cases d with
      | str x =>
        cases rd
        obtain ⟨p, hp, rfl⟩ := List.mem_map.mp (of_decide_eq_true (show decide (x ∈ hs.map (·.1)) = true from hin))
        obtain ⟨L, hv, eL⟩ := e3.val ft.nd hp
        refine ⟨_, rfl, b, CT, dx, _, _, rfl, s1 _ _ e1, BT.cl, BT.na _ (by decide), tb_h _, _, rfl, da, _, rfl, .inl ⟨kvs, _, .inl (s1 _ _ e2), rfl, hv.symm⟩, ?_⟩
        exact ⟨L, _, rfl, .inl (.inl (.inl (s1 _ _ eL))), fun r nr => q1 p hp rfl r _ (s1.trans (same_new nr)) (s1.free nr) upd_same⟩
      | _ => cases hin
end
end Th
namespace Th
open PySem PySem.Spec PyProof.Rows L2
abbrev s_l_shown : Stmt := topS 45
theorem sc_l_shown : FnScope ["_law_made", "_law_tag"] ["_law_made"] (defScope s_l_shown) := ⟨rfl, rfl, rfl, by decide +kernel, rfl, by decide +kernel, by decide +kernel⟩
def spShownT (K : PySem.W.Frag) (C : Addr) : Sp := fun vs H Q _ => ∃ (b : Addr) (hs : List (Str × List Str)), vs = [.ref b] ∧ TabW K H C b hs ∧ TabFit hs ∧ ∀ (L : Addr) H', Same H H' → Da K H' (.ref L) (.list (hs.map rowT)) → Q (.ref L) H'
section
variable {P : Program} {w : World} {K : PySem.W.Frag} {mg : Str → Option Value} {base : Heap} {CB CT : Addr}
theorem has_l_shown (Z : Zs mg) (BT : ClsF K mg CT "Table" ["_held"]) (A : At K mg "_law_shown" s_l_shown ["_law_made"]) (h_c_Table_finds : HasM P w K mg base CT "finds" 1 ["self"] (spTFinds K CT)) (h_c_Table_kinds_of : HasM P w K mg base CT "kinds_of" 9 ["self", "name"] (spTOf K mg CT)) : Has P w K mg base "_law_shown" s_l_shown 10 ["_law_made"] (spShownT K CT) := by
  obtain ⟨f, fd, F, mg1, bd⟩ := A
  obtain ⟨f_c_Table_finds, fd_c_Table_finds, ME_c_Table_finds, G_c_Table_finds, b_c_Table_finds⟩ := h_c_Table_finds
  obtain ⟨f_c_Table_kinds_of, fd_c_Table_kinds_of, ME_c_Table_kinds_of, G_c_Table_kinds_of, b_c_Table_kinds_of⟩ := h_c_Table_kinds_of
  refine ⟨f, fd, ?_, mg1, F.kp, bd, F⟩
  refine F.ok sc_l_shown (fun vs H Q E h => ?_) (fun cdv A outer s H vs Q E hr h => ?_)
  · obtain ⟨b, hs, rfl, _⟩ := h
    rfl
  · obtain ⟨b, hs, rfl, tb, ft, q⟩ := h
    refine ⟨_, (pss_one (ps_ret (pe_lc (own := [("_law_tag", 1)]) (g := gName 1) (by rfl) sc_l_shown.nd (pi_list (pe_meth0 (pv 0) BT.cl ME_c_Table_finds G_c_Table_finds (hr.mono (by decide)) b_c_Table_finds .nil passF)) (blkOk_by (own := [("_law_tag", 1)]) (N := ["_law_made", "_law_tag"]) (sc := defScope s_l_shown) (by decide +kernel)) (fun _ _ _ _ _ => pg_name (i := 1) sc_l_shown.nd rfl (Or.inl rfl)) (fun _ _ _ _ _ => pts_nil) (fun _ _ _ _ _ => (pe_tup (pa_cons (pv 1) (pa_cons (pe_meth (pv 0) BT.cl ME_c_Table_kinds_of G_c_Table_kinds_of (hr.mono (by decide)) b_c_Table_kinds_of .nil passF (pa_cons (pv 1) pa_nil)) pa_nil))))))), ?_⟩
    obtain ⟨dx, da, kvs, e1, e2, e3⟩ := tb.ex
    refine ⟨_, rfl, b, dx, _, rfl, e1, rfl, b, hs, rfl, tb, fun r nr => ?_⟩
    have s1 := same_new (o := .lst ((hs.map (·.1)).map V.str)) nr
    refine ⟨r, rfl, ⟨_, .inl (.inl upd_same)⟩, fun L nL => ?_⟩
    have tb1 := tb.to s1
    have e11 := s1 _ _ e1
    have er : (upd H r (.lst ((hs.map (·.1)).map V.str))) r = some (.lst ((hs.map (·.1)).map V.str)) := upd_same
    generalize upd H r (.lst ((hs.map (·.1)).map V.str)) = H1 at s1 nL tb1 e11 er ⊢
    have few := ft.few
    refine lc_list (K := K) (a := r) (xs := (hs.map (·.1)).map V.str) (fun i H2 => Same H1 H2 ∧ ∃ ws, H2 L = some (.lst ws) ∧ DaAll K (frH (upd H1 L (.lst [])) H2) ws ((hs.take i).map rowT)) ⟨same_new nL, [], upd_same, .nil⟩ (fun i H2 _ z => .inl (.inl (z.1 _ _ er))) ?_ ?_
    · rintro i v H2 hi ⟨s2, ws, e5, al⟩
      rw [List.getElem?_map, List.getElem?_map] at hi
      obtain ⟨x, hx, rfl⟩ := Option.map_eq_some_iff.mp hi
      obtain ⟨p, hp, rfl⟩ := Option.map_eq_some_iff.mp hx
      have pm := List.mem_of_getElem? hp
      have lw := al.len
      have fr : ∀ c, H2 c = none → (upd H1 L (.lst [])) c = none := fun c z => by
        by_cases w : c = L
        · rw [w, e5] at z; cases z
        · rw [upd_ne w]; exact s2.free z
      refine ⟨rfl, _, rfl, _, rfl, b, dx, _, rfl, s2 _ _ e11, rfl, _, rfl, b, hs, .str p.1, .str p.1, rfl, tb1.to s2, ft, .str _, lv_nm (ft.nm p pm), fun p' hp' ep r2 H3 s3 nr2 er2 => ?_, fun z => ?_⟩
      · obtain ⟨j, hj, hj2⟩ := List.getElem_of_mem hp'
        have e : p' = p := by
          have h1 : (hs.map (·.1))[j]? = some p.1 := by
            rw [List.getElem?_map, List.getElem?_eq_getElem hj, hj2, PyData.str.inj ep]; rfl
          have h2 : (hs.map (·.1))[i]? = some p.1 := by rw [List.getElem?_map, hp]; rfl
          have ji := nodup_at ft.nd h1 h2
          subst ji
          rw [List.getElem?_eq_getElem hj, hj2] at hp
          exact Option.some.inj hp
        subst e
        have li := lt_of_get hp
        refine ⟨by show 2 ≤ sizeLine; decide, fun T nT => ?_⟩
        have s4 := same_new (o := .tup [.str p'.1, .ref r2]) nT
        have eL := s4 _ _ (s3 _ _ e5)
        refine ⟨_, eL, slineL (by rw [lw, List.length_map, List.length_take]; omega), same_mut ((s2.trans s3).trans s4) nL, _, upd_same, ?_⟩
        have hL : (upd H1 L (.lst [])) L ≠ none := by rw [upd_same]; exact fun z => nomatch z
        rw [frH_upd hL, take_succ_map hp]
        have nr3 := fr _ nr2
        have nT3 := fr _ (s3.free nT)
        have hr2 : frH (upd H1 L (.lst [])) (upd H3 T (.tup [.str p'.1, .ref r2])) r2 = some (.lst (p'.2.map V.str)) := by rw [frH_new nr3]; exact s4 _ _ er2
        have hT2 : frH (upd H1 L (.lst [])) (upd H3 T (.tup [.str p'.1, .ref r2])) T = some (.tup [.str p'.1, .ref r2]) := by rw [frH_new nT3]; exact upd_same
        exact (al.to (frH_sm (s3.trans s4))).app (.cons (Da.newT hT2 (.cons (.str _) (.cons (Da.newL hr2 (DaAll.strs _)) .nil))) .nil)
      · have : decide (p.1 ∈ hs.map (·.1)) = true := decide_eq_true (List.mem_map.mpr ⟨p, pm, rfl⟩)
        rw [show inNm (.str p.1) (hs.map (·.1)) = decide (p.1 ∈ hs.map (·.1)) from rfl, this] at z
        cases z
    · rintro H2 ⟨s2, ws, e5, al⟩
      rw [List.length_map, List.length_map, List.take_length] at al
      exact q L H2 (s1.trans s2) (Da.newL e5 (al.to fun a o h => (frH_some h).2))
end
end Th
namespace Th
open PySem PySem.Spec PyProof.Rows L2
abbrev s_c_InvalidFind_init : Stmt := inClass (topS 5) 0
theorem sc_c_InvalidFind_init : FnScope ["self", "at"] ["self", "at"] (defScope s_c_InvalidFind_init) := ⟨rfl, rfl, rfl, by decide +kernel, rfl, by decide +kernel, by decide +kernel⟩

section
variable {P : Program} {w : World} {K : PySem.W.Frag} {mg : Str → Option Value} {base : Heap} {CB CT : Addr}
theorem has_c_InvalidFind_init {fI : Addr} {fd : FuncData} (Z : Zs mg) (F : Fun K "__init__" "InvalidFind.__init__" s_c_InvalidFind_init fI fd) (h_p_copied : Has P w K mg base "copied" s_p_copied 6 ["value"] (spCopy K 6)) : FnOk P w K mg base CX0 7 fI fd ["self", "at"] (spInit1 K "InvalidFind" "at" 6) := by
  obtain ⟨f_p_copied, fd_p_copied, G_p_copied, m_p_copied, k_p_copied, b_p_copied, F_p_copied⟩ := h_p_copied
  refine F.ok sc_c_InvalidFind_init (fun vs H Q E h => ?_) (fun cdv A outer s H vs Q E hr h => ?_)
  · obtain ⟨a, C, v, d, rfl, _⟩ := h
    rfl
  · obtain ⟨a, C, v, d, rfl, G, n1, n2, ea, rv, lv, q⟩ := h
    refine ⟨_, (pss_cons (ps_put (pv 0) (pe_call G_p_copied (hr.mono (by decide)) (by rfl) m_p_copied k_p_copied b_p_copied .nil pass0 (pa_cons (pv 1) pa_nil))) (pss_one (ps_put (pv 0) pe_str))), ?_⟩
    refine ⟨_, rfl, v, d, fun b => b = a, rfl, fun b hb => (by rw [hb, ea]; exact fun z => nomatch z), rv.kd fun b o e p => ?_, lv, fun v' H1 s1 rv' => ?_⟩
    · rw [hidS_out fun z => ?_]
      · exact e
      · rw [z, ea] at e
        exact p.1 _ (Option.some.inj e).symm
    · have ea1 := s1 _ _ ea
      refine ⟨_, rfl, a, C, rfl, G, n1, .inl ⟨ea1, fun dx nd ne => ?_⟩⟩
      refine ⟨_, rfl, a, C, rfl, G, n2, .inr ⟨dx, [("at", v')], upd_same, ?_, (by show 1 ≤ 900; decide), ?_⟩⟩
      · rw [upd_ne ne]; exact upd_same
      · exact q H1 v' dx s1 (rv'.to hidS_same) nd ne
end
end Th
namespace Th
open PySem PySem.Spec PyProof.Rows L2
abbrev s_c_TooMany_init : Stmt := inClass (topS 8) 0
theorem sc_c_TooMany_init : FnScope ["self", "most"] ["self", "most"] (defScope s_c_TooMany_init) := ⟨rfl, rfl, rfl, by decide +kernel, rfl, by decide +kernel, by decide +kernel⟩

section
variable {P : Program} {w : World} {K : PySem.W.Frag} {mg : Str → Option Value} {base : Heap} {CB CT : Addr}
theorem has_c_TooMany_init {fI : Addr} {fd : FuncData} (Z : Zs mg) (F : Fun K "__init__" "TooMany.__init__" s_c_TooMany_init fI fd) (h_p_copied : Has P w K mg base "copied" s_p_copied 6 ["value"] (spCopy K 6)) : FnOk P w K mg base CX0 7 fI fd ["self", "most"] (spInit1 K "TooMany" "most" 6) := by
  obtain ⟨f_p_copied, fd_p_copied, G_p_copied, m_p_copied, k_p_copied, b_p_copied, F_p_copied⟩ := h_p_copied
  refine F.ok sc_c_TooMany_init (fun vs H Q E h => ?_) (fun cdv A outer s H vs Q E hr h => ?_)
  · obtain ⟨a, C, v, d, rfl, _⟩ := h
    rfl
  · obtain ⟨a, C, v, d, rfl, G, n1, n2, ea, rv, lv, q⟩ := h
    refine ⟨_, (pss_cons (ps_put (pv 0) (pe_call G_p_copied (hr.mono (by decide)) (by rfl) m_p_copied k_p_copied b_p_copied .nil pass0 (pa_cons (pv 1) pa_nil))) (pss_one (ps_put (pv 0) pe_str))), ?_⟩
    refine ⟨_, rfl, v, d, fun b => b = a, rfl, fun b hb => (by rw [hb, ea]; exact fun z => nomatch z), rv.kd fun b o e p => ?_, lv, fun v' H1 s1 rv' => ?_⟩
    · rw [hidS_out fun z => ?_]
      · exact e
      · rw [z, ea] at e
        exact p.1 _ (Option.some.inj e).symm
    · have ea1 := s1 _ _ ea
      refine ⟨_, rfl, a, C, rfl, G, n1, .inl ⟨ea1, fun dx nd ne => ?_⟩⟩
      refine ⟨_, rfl, a, C, rfl, G, n2, .inr ⟨dx, [("most", v')], upd_same, ?_, (by show 1 ≤ 900; decide), ?_⟩⟩
      · rw [upd_ne ne]; exact upd_same
      · exact q H1 v' dx s1 (rv'.to hidS_same) nd ne
end
end Th
namespace Th
open PySem PySem.Spec PyProof.Rows L2
abbrev s_c_DuplicateName_init : Stmt := inClass (topS 7) 0
theorem sc_c_DuplicateName_init : FnScope ["self", "name"] ["self", "name"] (defScope s_c_DuplicateName_init) := ⟨rfl, rfl, rfl, by decide +kernel, rfl, by decide +kernel, by decide +kernel⟩

section
variable {P : Program} {w : World} {K : PySem.W.Frag} {mg : Str → Option Value} {base : Heap} {CB CT : Addr}
theorem has_c_DuplicateName_init {fI : Addr} {fd : FuncData} (Z : Zs mg) (F : Fun K "__init__" "DuplicateName.__init__" s_c_DuplicateName_init fI fd) (h_p_copied : Has P w K mg base "copied" s_p_copied 6 ["value"] (spCopy K 6)) : FnOk P w K mg base CX0 7 fI fd ["self", "name"] (spInit1 K "DuplicateName" "name" 6) := by
  obtain ⟨f_p_copied, fd_p_copied, G_p_copied, m_p_copied, k_p_copied, b_p_copied, F_p_copied⟩ := h_p_copied
  refine F.ok sc_c_DuplicateName_init (fun vs H Q E h => ?_) (fun cdv A outer s H vs Q E hr h => ?_)
  · obtain ⟨a, C, v, d, rfl, _⟩ := h
    rfl
  · obtain ⟨a, C, v, d, rfl, G, n1, n2, ea, rv, lv, q⟩ := h
    refine ⟨_, (pss_cons (ps_put (pv 0) (pe_call G_p_copied (hr.mono (by decide)) (by rfl) m_p_copied k_p_copied b_p_copied .nil pass0 (pa_cons (pv 1) pa_nil))) (pss_one (ps_put (pv 0) pe_str))), ?_⟩
    refine ⟨_, rfl, v, d, fun b => b = a, rfl, fun b hb => (by rw [hb, ea]; exact fun z => nomatch z), rv.kd fun b o e p => ?_, lv, fun v' H1 s1 rv' => ?_⟩
    · rw [hidS_out fun z => ?_]
      · exact e
      · rw [z, ea] at e
        exact p.1 _ (Option.some.inj e).symm
    · have ea1 := s1 _ _ ea
      refine ⟨_, rfl, a, C, rfl, G, n1, .inl ⟨ea1, fun dx nd ne => ?_⟩⟩
      refine ⟨_, rfl, a, C, rfl, G, n2, .inr ⟨dx, [("name", v')], upd_same, ?_, (by show 1 ≤ 900; decide), ?_⟩⟩
      · rw [upd_ne ne]; exact upd_same
      · exact q H1 v' dx s1 (rv'.to hidS_same) nd ne
end
end Th
namespace Th
open PySem PySem.Spec PyProof.Rows L2
abbrev s_p_check_different : Stmt := topS 19
theorem sc_p_check_different : FnScope ["names", "at", "name"] ["names"] (defScope s_p_check_different) := ⟨rfl, rfl, rfl, by decide +kernel, rfl, by decide +kernel, by decide +kernel⟩
/-- texts, each once, or an error -/
def spDiff (K : PySem.W.Frag) (mg : Str → Option Value) : Sp := fun vs H Q E => ∃ (a : Addr) (xs : List Str), vs = [.ref a] ∧ SqL K H a (xs.map V.str) ∧ xs.length ≤ 1000 ∧ (∀ x ∈ xs, isNm x = true) ∧
  (dupAt xs = none → ∀ H', Same H H' → Q .non H') ∧ (∀ x, dupAt xs = some x → ∀ cls dd v' H', Same H H' → IsExc K mg "DuplicateName" [("code", .str "DuplicateName"), ("name", v')] cls dd H' → Da K H' v' (.str x) → E cls dd H')
section
variable {P : Program} {w : World} {K : PySem.W.Frag} {mg : Str → Option Value} {base : Heap} {CB CT : Addr}
theorem has_p_check_different (Z : Zs mg) (A : At K mg "check_different" s_p_check_different ["names"]) (h_c_DuplicateName_init : HasE P w K mg base "DuplicateName" "DuplicateName.__init__" s_c_DuplicateName_init ["self", "name"] ["name", "code"] 7 (spInit1 K "DuplicateName" "name" 6)) : HasX P w K mg base "check_different" s_p_check_different 9 ["names"] (spDiff K mg) := by
  obtain ⟨f, fd, F, mg1, bd⟩ := A
  obtain ⟨C_c_DuplicateName_init, fI_c_DuplicateName_init, fd_c_DuplicateName_init, E_c_DuplicateName_init, G_c_DuplicateName_init⟩ := h_c_DuplicateName_init
  refine ⟨f, fd, ?_, mg1, F.kp, bd, F⟩
  refine F.okX sc_p_check_different (fun vs H Q E h => ?_) (fun cdv A outer s H vs Q E hr h => ?_)
  · obtain ⟨a, xs, rfl, _⟩ := h
    rfl
  · obtain ⟨a, xs, rfl, ha, hl, nm, q1, q2⟩ := h
    refine ⟨_, (pss_one (ps_for (passes_of rfl) rfl (pi_enumLT (by rfl) Z.enumerate_ (pa_cons (pv 0) pa_nil)) (pg_tup (by rfl) (pgs_cons (pg_name (i := 1) sc_p_check_different.nd rfl (Or.inl rfl)) (pgs_cons (pg_name (i := 2) sc_p_check_different.nd rfl (Or.inl rfl)) pgs_nil))) (pss_one (ps_if (pt_cmpR op_in_seq (pv 2) (pe_slice sl_list (pv 0) po_none (po_some (pv 1))) (by rfl)) (pss_one (ps_raise rfl (takes_of rfl rfl rfl rfl) (pmk_new E_c_DuplicateName_init.g E_c_DuplicateName_init.ini E_c_DuplicateName_init.tI G_c_DuplicateName_init (hr.mono (by decide)) E_c_DuplicateName_init.b (by rfl) E_c_DuplicateName_init.m (pa_cons (pv 2) pa_nil)))) pss_nil)))), ?_⟩
    have lm : (xs.map V.str).length = xs.length := List.length_map _
    refine ⟨_, rfl, a, xs.map V.str, rfl, .inl ⟨ha, for_it walk_enum (fun i σ H' => ∃ y1 y2 : Option V, σ = [some (.ref a), y1, y2] ∧ Same H H' ∧ ∀ j y, j < i → xs[j]? = some y → y ∉ xs.take j) ⟨_, _, rfl, Same.refl H, fun j y hj => absurd hj (Nat.not_lt_zero j)⟩ (fun i σ H' _ z => by obtain ⟨_, _, _, s, _⟩ := z; exact s.seq ha) ?_ ?_⟩⟩
    · rintro i x σ H2 H3 _ ⟨y1, y2, rfl, s2, hn⟩ ⟨T, x1, x2, rfl, nT, rfl, e1, e2⟩
      cases e1
      obtain ⟨y, hy, rfl⟩ := getmap e2
      have hyl := lt_of_get hy
      have s3 := s2.trans (same_new (o := .tup [.int (i : Nat), .str y]) nT)
      refine ⟨T, _, rfl, .inl (.inl upd_same), rfl, _, _, rfl, _, _, rfl, rfl, ?_⟩
      refine ⟨_, rfl, _, rfl, _, rfl, (i : Int), rfl, a, _, rfl, s3.seq ha, fun R nR => ?_⟩
      have s4 := s3.trans (same_new (o := .lst (cutV (xs.map V.str) none (some (i : Int)))) nR)
      have ec : cutV (xs.map V.str) none (some (i : Int)) = (xs.take i).map V.str := by rw [cut_to _ (Int.natCast_nonneg i), Int.toNat_natCast, List.map_take]
      rw [ec] at s4 ⊢
      refine ⟨R, _, rfl, .inl (.inl (.inl upd_same)), rfl, flatS _, _, rfl, ?_⟩
      rw [inS]
      refine ite2 (fun hm => ?_) (fun hm => ?_)
      · have hm' : y ∈ xs.take i := by simpa using hm
        refine ⟨_, rfl, ?_⟩
        exact new1 E_c_DuplicateName_init (by decide) (by decide) (.str y) (lv_nm (n := 5) (nm y (List.mem_of_getElem? hy))) fun cls dd v' H' s e' r => q2 y (dupAt_some hy hm' hn) cls dd v' H' (s4.trans s) e' r
      · have hm' : y ∉ xs.take i := by simpa using hm
        refine ⟨_, _, rfl, s4, fun j z hj hz => ?_⟩
        by_cases e : j < i
        · exact hn j z e hz
        · have : j = i := by omega
          subst this
          rw [hy] at hz
          cases hz
          exact hm'
    · rintro σ H2 ⟨y1, y2, rfl, s2, hn⟩
      exact q1 (dupAt_none fun j y hy => hn j y (by rw [lm]; exact lt_of_get hy) hy) H2 s2
end
end Th
namespace Th
open PySem PySem.Spec PyProof.Rows L2
abbrev s_c_Table_init : Stmt := inClass (topS 24) 0
theorem sc_c_Table_init : FnScope ["self", "holdings", "at", "holding", "name", "_", "held", "kinds"] ["self", "holdings"] (defScope s_c_Table_init) := ⟨rfl, rfl, rfl, by decide +kernel, rfl, by decide +kernel, by decide +kernel⟩
/-- a table of any holdings, or an error -/
def spTabI (K : PySem.W.Frag) (mg : Str → Option Value) (C : Addr) : Sp := fun vs H Q E => ∃ (b dx : Addr) (v : V) (d : PyData), vs = [.ref b, v] ∧ Da K H v d ∧ (∀ ds, itemsF d = some ds → ∀ e ∈ ds, Lv 5 e) ∧ H b = some (.ins C dx []) ∧ (∀ ds, itemsF d = some ds → (∀ e ∈ ds, rowD e = true) → (allK (ds.map rowP)).length < 64) ∧
  (tbDue d = none → ∀ (ds : List PyData) (hs : List (Str × List Str)) H', itemsF d = some ds → TabOf (ds.map rowP) hs → TabW K H' C b hs → (∀ c o, c ≠ b → H c = some o → H' c = some o) → Q .non H') ∧
  (∀ c val, tbDue d = some (c, val) → ∀ cls dd v' H', Same H H' → IsExc K mg c [("code", .str c), (fldOf c, v')] cls dd H' → Da K H' v' val → E cls dd H')
/-- finds with their kinds ascending, in the order of the rows -/
inductive SortR : List (Str × List Str) → List (Str × List Str) → Prop
  | nil : SortR [] []
  | cons {x : Str} {ks js : List Str} {gs rs : List (Str × List Str)} : js.Perm ks → sortedS js = true → SortR gs rs → SortR ((x, js) :: gs) ((x, ks) :: rs)
theorem SortR.names : ∀ {gs rs : List (Str × List Str)}, SortR gs rs → gs.map (·.1) = rs.map (·.1)
  | _, _, .nil => rfl
  | _, _, .cons _ _ r => congrArg (List.cons _) r.names
theorem SortR.len {gs rs : List (Str × List Str)} (h : SortR gs rs) : gs.length = rs.length := by
  have := congrArg List.length h.names
  rwa [List.length_map, List.length_map] at this
theorem SortR.snoc {x : Str} {ks js : List Str} (p : js.Perm ks) (s : sortedS js = true) : ∀ {gs rs : List (Str × List Str)}, SortR gs rs → SortR (gs ++ [(x, js)]) (rs ++ [(x, ks)])
  | _, _, .nil => .cons p s .nil
  | _, _, .cons a b r => .cons a b (r.snoc p s)
theorem SortR.mem : ∀ {gs rs : List (Str × List Str)} {p : Str × List Str}, SortR gs rs → p ∈ gs → ∃ q ∈ rs, q.1 = p.1 ∧ p.2.Perm q.2 ∧ sortedS p.2 = true
  | _, _, _, .nil, h => nomatch h
  | _, _, p, .cons a b r, h => by
    rcases List.mem_cons.mp h with e | h
    · subst e
      exact ⟨_, List.mem_cons_self, rfl, a, b⟩
    · obtain ⟨q, h1, h2⟩ := r.mem h
      exact ⟨q, List.mem_cons_of_mem _ h1, h2⟩
section
variable {P : Program} {w : World} {K : PySem.W.Frag} {mg : Str → Option Value} {base : Heap} {CB CT : Addr}
theorem has_c_Table_init {f : Addr} {fd : FuncData} {dvs : List V} (Z : Zs mg) (gMF : ∃ t, mg "MOST_FINDS" = some (.int 12 t)) (gMK : ∃ t, mg "MOST_KINDS" = some (.int 10 t)) (BT : ClsF K mg CT "Table" ["_held"]) (F : FunD K "__init__" "Table.__init__" (defArgs s_c_Table_init) (defBody s_c_Table_init) (defScope s_c_Table_init) dvs [] f fd) (h_p_is_listed : Has P w K mg base "is_listed" s_p_is_listed 1 ["value"] (spSeqQ K)) (h_c_InvalidFind_init : HasE P w K mg base "InvalidFind" "InvalidFind.__init__" s_c_InvalidFind_init ["self", "at"] ["at", "code"] 7 (spInit1 K "InvalidFind" "at" 6)) (h_c_TooMany_init : HasE P w K mg base "TooMany" "TooMany.__init__" s_c_TooMany_init ["self", "most"] ["most", "code"] 7 (spInit1 K "TooMany" "most" 6)) (h_p_is_holding : Has P w K mg base "_is_holding" s_p_is_holding 3 ["value"] (spJ K 5 rowD)) (h_p_check_different : HasX P w K mg base "check_different" s_p_check_different 9 ["names"] (spDiff K mg)) (h_p_kinds_in : Has P w K mg base "_kinds_in" s_p_kinds_in 1 ["holdings"] (spKindsIn K)) : FnOk P w K mg base (L2.CX P w) 10 f fd ["self", "holdings"] (spTabI K mg CT) := by
  obtain ⟨f_p_is_listed, fd_p_is_listed, G_p_is_listed, m_p_is_listed, k_p_is_listed, b_p_is_listed, F_p_is_listed⟩ := h_p_is_listed
  obtain ⟨C_c_InvalidFind_init, fI_c_InvalidFind_init, fd_c_InvalidFind_init, E_c_InvalidFind_init, G_c_InvalidFind_init⟩ := h_c_InvalidFind_init
  obtain ⟨C_c_TooMany_init, fI_c_TooMany_init, fd_c_TooMany_init, E_c_TooMany_init, G_c_TooMany_init⟩ := h_c_TooMany_init
  obtain ⟨f_p_is_holding, fd_p_is_holding, G_p_is_holding, m_p_is_holding, k_p_is_holding, b_p_is_holding, F_p_is_holding⟩ := h_p_is_holding
  obtain ⟨f_p_check_different, fd_p_check_different, G_p_check_different, m_p_check_different, k_p_check_different, b_p_check_different, F_p_check_different⟩ := h_p_check_different
  obtain ⟨f_p_kinds_in, fd_p_kinds_in, G_p_kinds_in, m_p_kinds_in, k_p_kinds_in, b_p_kinds_in, F_p_kinds_in⟩ := h_p_kinds_in
  obtain ⟨tMF, g_MOST_FINDS⟩ := gMF
  obtain ⟨tMK, g_MOST_KINDS⟩ := gMK
  refine F.ok (CX := L2.CX P w) sc_c_Table_init (fun vs H Q E h => ?_) (fun cdv A outer s H vs Q E hr h => ?_)
  · obtain ⟨b, dx, v, d, rfl, _⟩ := h
    rfl
  · obtain ⟨b, dx, v, d, rfl, rv, hlv0, eb, h64, q1, q2⟩ := h
    refine ⟨_, (pss_cons (ps_if (PW.pt (pw_or (pt_not (pt_val (pe_call G_p_is_listed (hr.mono (by decide)) (by rfl) m_p_is_listed k_p_is_listed b_p_is_listed .nil pass0 (pa_cons (pv 1) pa_nil)))) (pw_or1 (pt_cmpR op_eq (pe_callB call_len_seq (by rfl) Z.len_ (by decide +kernel) (pa_cons (pv 1) pa_nil)) pe_int (nomark _))))) (pss_one (ps_raise rfl (takes_of rfl rfl rfl rfl) (pmk_new E_c_InvalidFind_init.g E_c_InvalidFind_init.ini E_c_InvalidFind_init.tI G_c_InvalidFind_init (hr.mono (by decide)) E_c_InvalidFind_init.b (by rfl) E_c_InvalidFind_init.m (pa_cons (pe_un un_neg pe_int) pa_nil)))) pss_nil) (pss_cons (ps_if (pt_cmpR op_gt (pe_callB call_len_seq (by rfl) Z.len_ (by decide +kernel) (pa_cons (pv 1) pa_nil)) (pe_glob (v := .int 12) (by rfl) g_MOST_FINDS ⟨_, rfl⟩) (nomark _)) (pss_one (ps_raise rfl (takes_of rfl rfl rfl rfl) (pmk_new E_c_TooMany_init.g E_c_TooMany_init.ini E_c_TooMany_init.tI G_c_TooMany_init (hr.mono (by decide)) E_c_TooMany_init.b (by rfl) E_c_TooMany_init.m (pa_cons (pe_glob (v := .int 12) (by rfl) g_MOST_FINDS ⟨_, rfl⟩) pa_nil)))) pss_nil) (C8.pss_cut (ps_for (passes_of rfl) rfl (pi_enumLT (by rfl) Z.enumerate_ (pa_cons (pv 1) pa_nil)) (pg_tup (by rfl) (pgs_cons (pg_name (i := 2) sc_c_Table_init.nd rfl (Or.inl rfl)) (pgs_cons (pg_name (i := 3) sc_c_Table_init.nd rfl (Or.inl rfl)) pgs_nil))) (pss_one (ps_if (pt_not (pt_val (pe_call G_p_is_holding (hr.mono (by decide)) (by rfl) m_p_is_holding k_p_is_holding b_p_is_holding .nil pass0 (pa_cons (pv 3) pa_nil)))) (pss_one (ps_raise rfl (takes_of rfl rfl rfl rfl) (pmk_new E_c_InvalidFind_init.g E_c_InvalidFind_init.ini E_c_InvalidFind_init.tI G_c_InvalidFind_init (hr.mono (by decide)) E_c_InvalidFind_init.b (by rfl) E_c_InvalidFind_init.m (pa_cons (pv 2) pa_nil)))) pss_nil))) (pss_cons (ps_expr (pe_call G_p_check_different (hr.mono (by decide)) (by rfl) m_p_check_different k_p_check_different b_p_check_different .nil (passes_call (takes_of rfl rfl rfl rfl) fun _ _ _ _ h => h) (pa_cons (pe_lc (own := [("name", 4), ("_", 5)]) (g := gTup K 2 (gCons (gName 4) (gCons (gName 5) gNil))) (by rfl) sc_c_Table_init.nd (pi_any (pv 1)) (blkOk_by (own := [("name", 4), ("_", 5)]) (N := ["self", "holdings", "at", "holding", "name", "_", "held", "kinds"]) (sc := defScope s_c_Table_init) (by decide +kernel)) (fun _ _ _ _ _ => (pg_tup (by rfl) (pgs_cons (pg_name (i := 4) sc_c_Table_init.nd rfl (Or.inl rfl)) (pgs_cons (pg_name (i := 5) sc_c_Table_init.nd rfl (Or.inl rfl)) pgs_nil)))) (fun _ _ _ _ _ => pts_nil) (fun _ _ _ _ _ => (pv 4))) pa_nil))) (pss_cons (ps_if (pt_cmpR op_gt (pe_callB call_len_seq (by rfl) Z.len_ (by decide +kernel) (pa_cons (pe_call G_p_kinds_in (hr.mono (by decide)) (by rfl) m_p_kinds_in k_p_kinds_in b_p_kinds_in .nil pass0 (pa_cons (pv 1) pa_nil)) pa_nil)) (pe_glob (v := .int 10) (by rfl) g_MOST_KINDS ⟨_, rfl⟩) (nomark _)) (pss_one (ps_raise rfl (takes_of rfl rfl rfl rfl) (pmk_new E_c_TooMany_init.g E_c_TooMany_init.ini E_c_TooMany_init.tI G_c_TooMany_init (hr.mono (by decide)) E_c_TooMany_init.b (by rfl) E_c_TooMany_init.m (pa_cons (pe_glob (v := .int 10) (by rfl) g_MOST_KINDS ⟨_, rfl⟩) pa_nil)))) pss_nil) (pss_cons (ps_set (i := 6) sc_c_Table_init.nd rfl (Or.inr rfl) (pe_dc (own := [("name", 4), ("kinds", 7)]) (g := gTup K 2 (gCons (gName 4) (gCons (gName 7) gNil))) (by rfl) sc_c_Table_init.nd (pi_any (pv 1)) (blkOk_by (own := [("name", 4), ("kinds", 7)]) (N := ["self", "holdings", "at", "holding", "name", "_", "held", "kinds"]) (sc := defScope s_c_Table_init) (by decide +kernel)) (fun _ _ _ _ _ => (pg_tup (by rfl) (pgs_cons (pg_name (i := 4) sc_c_Table_init.nd rfl (Or.inl rfl)) (pgs_cons (pg_name (i := 7) sc_c_Table_init.nd rfl (Or.inl rfl)) pgs_nil)))) (fun _ _ _ _ _ => pts_nil) (fun _ _ _ _ _ => (pv 4)) (fun _ _ _ _ _ => (pe_callB (show CallR _ (.builtin "sorted") (rSortedLT K) from cr_sortedLT) (by rfl) Z.sorted_ (by decide +kernel) (pa_cons (pv 7) pa_nil))))) (pss_one (ps_fld (pv 0) (pe_dc (own := [("name", 4)]) (g := gName 4) (by rfl) sc_c_Table_init.nd (pi_list (pe_callB (call_sortedD rfl) (by rfl) Z.sorted_ (by decide +kernel) (pa_cons (pv 6) pa_nil))) (blkOk_by (own := [("name", 4)]) (N := ["self", "holdings", "at", "holding", "name", "_", "held", "kinds"]) (sc := defScope s_c_Table_init) (by decide +kernel)) (fun _ _ _ _ _ => pg_name (i := 4) sc_c_Table_init.nd rfl (Or.inl rfl)) (fun _ _ _ _ _ => pts_nil) (fun _ _ _ _ _ => (pv 4)) (fun _ _ _ _ _ => (pe_dget (hu_of hr) (pv 6) (pv 4) (fun _ _ => rfl)))) rfl)))))))), ?_⟩
    refine ⟨_, rfl, v, d, rfl, rv, fun H1 s1 => ⟨_, rfl, ite2 (fun z => ?_) (fun z => ?_)⟩⟩
    · have hn := noseqF (d := d) (fun w => by rw [decide_eq_true w] at z; cases z)
      refine ⟨_, rfl, ?_⟩
      exact new1 E_c_InvalidFind_init (by decide) (by decide) (.int (-1)) trivial fun cls dd v' H' s e r => q2 _ _ (tb_none hn) cls dd v' H' (s1.trans s) e r
    obtain ⟨p, vs, ds, rfl, hq, al, hi⟩ := seqF (rv.to s1) (Classical.byContradiction fun w => z (by rw [decide_eq_false w]; rfl))
    have hlv := hlv0 ds hi
    refine ⟨_, rfl, p, vs, rfl, hq, rfl, _, rfl, ite2 (fun z => ?_) (fun z0 => ?_)⟩
    · have hlen : ds.length = 0 := by
        have z := V.int.inj (of_decide_eq_true z)
        rw [al.len] at z
        omega
      refine ⟨_, rfl, ?_⟩
      exact new1 E_c_InvalidFind_init (by decide) (by decide) (.int (-1)) trivial fun cls dd v' H' s e r => q2 _ _ (tb_no hi hlen) cls dd v' H' (s1.trans s) e r
    have l0 : ds.length ≠ 0 := fun w => z0 (decide_eq_true (by rw [al.len, w]; rfl))
    refine ⟨_, rfl, p, vs, rfl, hq, _, _, rfl, rfl, _, rfl, ite2 (fun z => ?_) (fun z => ?_)⟩
    · have hlen : 12 < ds.length := by
        have z := of_decide_eq_true z
        rw [al.len] at z
        omega
      exact new1 E_c_TooMany_init (by decide) (by decide) (.int 12) trivial fun cls dd v' H' s e r => q2 _ _ (tb_many hi hlen) cls dd v' H' (s1.trans s) e r
    have hl : ds.length ≤ 12 := by
      have z : ¬ ((vs.length : Nat) : Int) > 12 := fun w => z (decide_eq_true w)
      rw [al.len] at z
      omega
    clear z z0
    have lvs := al.len
    -- each row is a row
    refine ⟨fun σ H' => (∃ y1 y2 : Option V, σ = [some (.ref b), some (.ref p), y1, y2, none, none, none, none]) ∧ Same H1 H' ∧ ∀ (j : Nat) (e : PyData), ds[j]? = some e → rowD e = true, ?_, ?_⟩
    · rcases hq with hq | hq
      · refine ⟨_, rfl, p, vs, rfl, .inl ⟨hq, for_it walk_enum (fun i σ H' => ∃ y1 y2 : Option V, σ = [some (.ref b), some (.ref p), y1, y2, none, none, none, none] ∧ Same H1 H' ∧ ∀ j e, j < i → ds[j]? = some e → rowD e = true) ⟨_, _, rfl, Same.refl H1, fun j e hj => absurd hj (Nat.not_lt_zero j)⟩ (fun i σ H' _ z => by obtain ⟨_, _, _, s, _⟩ := z; exact Same.seq s hq) ?_ ?_⟩⟩
        · rintro i x σ H3 H4 _ ⟨y1, y2, rfl, s3, hn⟩ ⟨T, x1, x2, rfl, nT, rfl, e1, e2⟩
          cases e1
          obtain ⟨e, he, re⟩ := (al.to s3).at e2
          have s4 := same_new (o := .tup [.int (i : Nat), x2]) nT
          refine ⟨T, _, rfl, .inl (.inl upd_same), rfl, _, _, rfl, _, _, rfl, rfl, ?_⟩
          refine ⟨_, rfl, x2, e, rfl, re.to s4, hlv e (List.mem_of_getElem? he), fun H5 s5 => ?_⟩
          have s15 := s3.trans (s4.trans s5)
          refine ⟨_, rfl, ite2 (fun hm => ?_) (fun hm => ?_)⟩
          · have hm' : rowD e = false := by simpa using hm
            refine ⟨_, rfl, ?_⟩
            exact new1 E_c_InvalidFind_init (by decide) (by decide) (.int (i : Int)) trivial fun cls dd v' H' s e' r => q2 _ _ (tb_bad hi hl he hm' hn) cls dd v' H' ((s1.trans s15).trans s) e' r
          · have hm' : rowD e = true := by simpa using hm
            refine ⟨_, _, rfl, s15, fun j e' hj he' => ?_⟩
            rcases Nat.lt_succ_iff_lt_or_eq.mp hj with z | z
            · exact hn j e' z he'
            · rw [z, he] at he'
              cases he'
              exact hm'
        rintro σ H3 ⟨y1, y2, rfl, s3, hn⟩
        exact ⟨⟨_, _, rfl⟩, s3, fun j e' he => hn j e' (by rw [lvs]; exact lt_of_get he) he⟩
      · refine ⟨_, rfl, p, vs, rfl, .inr ⟨hq, for_it walk_enumT (fun i σ H' => ∃ y1 y2 : Option V, σ = [some (.ref b), some (.ref p), y1, y2, none, none, none, none] ∧ Same H1 H' ∧ ∀ j e, j < i → ds[j]? = some e → rowD e = true) ⟨_, _, rfl, Same.refl H1, fun j e hj => absurd hj (Nat.not_lt_zero j)⟩ (fun i σ H' _ z => by obtain ⟨_, _, _, s, _⟩ := z; exact same_t s hq) ?_ ?_⟩⟩
        · rintro i x σ H3 H4 _ ⟨y1, y2, rfl, s3, hn⟩ ⟨T, x1, x2, rfl, nT, rfl, e1, e2⟩
          cases e1
          obtain ⟨e, he, re⟩ := (al.to s3).at e2
          have s4 := same_new (o := .tup [.int (i : Nat), x2]) nT
          refine ⟨T, _, rfl, .inl (.inl upd_same), rfl, _, _, rfl, _, _, rfl, rfl, ?_⟩
          refine ⟨_, rfl, x2, e, rfl, re.to s4, hlv e (List.mem_of_getElem? he), fun H5 s5 => ?_⟩
          have s15 := s3.trans (s4.trans s5)
          refine ⟨_, rfl, ite2 (fun hm => ?_) (fun hm => ?_)⟩
          · have hm' : rowD e = false := by simpa using hm
            refine ⟨_, rfl, ?_⟩
            exact new1 E_c_InvalidFind_init (by decide) (by decide) (.int (i : Int)) trivial fun cls dd v' H' s e' r => q2 _ _ (tb_bad hi hl he hm' hn) cls dd v' H' ((s1.trans s15).trans s) e' r
          · have hm' : rowD e = true := by simpa using hm
            refine ⟨_, _, rfl, s15, fun j e' hj he' => ?_⟩
            rcases Nat.lt_succ_iff_lt_or_eq.mp hj with z | z
            · exact hn j e' z he'
            · rw [z, he] at he'
              cases he'
              exact hm'
        rintro σ H3 ⟨y1, y2, rfl, s3, hn⟩
        exact ⟨⟨_, _, rfl⟩, s3, fun j e' he => hn j e' (by rw [lvs]; exact lt_of_get he) he⟩
    rintro σ H3 ⟨⟨y1, y2, rfl⟩, s3, hall⟩
    have hrow : ∀ e ∈ ds, rowD e = true := fun e he => by
      obtain ⟨j, hj⟩ := List.getElem?_of_mem he
      exact hall j e hj
    have s13 := s1.trans s3
    -- the names
    refine ⟨_, rfl, p, vs, H1, rfl, hq, s3, fun J wJ L nL => ?_⟩
    refine lc_it wJ (fun i H4 => Same H3 H4 ∧ H4 L = some (.lst (((ds.map markOf).take i).map V.str))) ⟨same_new nL, upd_same⟩ (fun i H4 _ z => s3.trans z.1) ?_ ?_
    · rintro i x H4 H4' hi4 ⟨s4, e4⟩ ⟨rfl, hx⟩
      obtain ⟨e, he, re⟩ := al.at hx
      obtain ⟨p2, b2, m, ks, rfl, sq, hb2, nm, nk, em, ek⟩ := re.row (hall _ e he)
      refine ⟨p2, _, rfl, same_t (s3.trans s4) sq, rfl, _, _, rfl, _, _, rfl, rfl, rfl, _, rfl, _, e4, slineL (by rw [List.length_map, List.length_take, List.length_map]; omega), same_mut s4 nL, ?_⟩
      rw [upd_same, take_succ_map (f := V.str) (x := m) (by rw [List.getElem?_map, he, ← em]; rfl)]
    rintro H4 ⟨s4, e4⟩
    rw [List.take_of_length_le (by rw [List.length_map, lvs]; exact Nat.le_refl _)] at e4
    have nmk : ∀ x ∈ ds.map markOf, isNm x = true := fun x hx => by
      obtain ⟨e, he, rfl⟩ := List.mem_map.mp hx
      obtain ⟨m, l, ks, rfl, nm, _⟩ := row_shape (hrow e he)
      exact nm
    have s14 := s13.trans s4
    refine ⟨L, ds.map markOf, rfl, .inl (.inl e4), by rw [List.length_map]; omega, nmk, fun hd H5 s5 => ?_, fun x hd cls dd v' H5 s5 ie rv' => q2 _ _ (tb_dup hi l0 hl hall hd) cls dd v' H5 (s14.trans s5) ie rv'⟩
    have s35 := s4.trans s5
    have s15 := s3.trans s35
    have s05 := s14.trans s5
    have nd : (ds.map markOf).Nodup := nodup_of_take' fun j y hy hm => by
      unfold dupAt firstIx at hd
      have hd := Option.map_eq_none_iff.mp hd
      have := List.find?_eq_none.mp hd j (List.mem_range.mpr (lt_of_get hy))
      rw [getD_of hy] at this
      exact this (decide_eq_true hm)
    have lvK : ∀ e ∈ ds, (rowK e).length ≤ 60 := fun e he => by
      obtain ⟨m, l, ks, rfl, nm, hil, nk, hp, sh⟩ := row_shape (hrow e he)
      have hk : rowK (.tuple [.str m, l]) = ks := congrArg Prod.snd hp
      have lv1 := (hlv _ he).2 l (List.mem_cons_of_mem _ List.mem_cons_self)
      rw [hk]
      rcases sh with rfl | rfl
      · have := lv1.1
        rwa [List.length_map] at this
      · have := lv1.1
        rwa [List.length_map] at this
    -- the kinds
    refine ⟨_, rfl, .ref p, d, ds, rfl, rv.to s05, hi, hrow, by omega, lvK, h64 ds hi hrow, fun K1 ys H6 s6 nK1 eK1 pmK soK => ?_⟩
    have s06 := s05.trans s6
    refine ⟨K1, _, rfl, .inl (.inl (.inl eK1)), _, _, rfl, rfl, _, rfl, ite2 (fun z => ?_) (fun z => ?_)⟩
    · have z := of_decide_eq_true z
      rw [List.length_map, pmK.length_eq] at z
      exact new1 E_c_TooMany_init (by decide) (by decide) (.int 10) trivial fun cls dd v' H' s e r => q2 _ _ (tb_kinds hi l0 hl hall hd (by omega)) cls dd v' H' (s06.trans s) e r
    have hk10 : ¬ 10 < (allK (ds.map rowP)).length := fun w => z (decide_eq_true (by rw [List.length_map, pmK.length_eq]; omega))
    have s16 := s15.trans s6
    -- the dict of the rows
    refine ⟨_, rfl, p, vs, H1, rfl, hq, s16, fun J wJ D nD => ?_⟩
    refine dc_it wJ (fun i H7 => Same H6 H7 ∧ ∃ kvs gs, H7 D = some (.dK kvs) ∧ Held H7 kvs gs ∧ SortR gs ((ds.map rowP).take i)) ⟨same_new nD, [], [], upd_same, .nil, .nil⟩ (fun i H7 _ z => s16.trans z.1) ?_ ?_
    · rintro i x H7 H7' hi7 ⟨s7, kvs, gs, e7, hh, sr⟩ ⟨rfl, hx⟩
      obtain ⟨e, he, re⟩ := al.at hx
      obtain ⟨p2, b2, m, ks, rfl, sq, hb2, nm, nk, em, ek⟩ := re.row (hall _ e he)
      have s17 := s16.trans s7
      have lks : ks.length ≤ 60 := by rw [← ek]; exact lvK e (List.mem_of_getElem? he)
      have hp : (ds.map rowP)[i]? = some (m, ks) := by rw [List.getElem?_map, he, ← em, ← ek]; rfl
      refine ⟨p2, _, rfl, same_t s17 sq, rfl, _, _, rfl, _, _, rfl, rfl, rfl, _, rfl, _, rfl, b2, ks, rfl, sq_any s17 hb2, by omega, fun js u pm so nu => ?_⟩
      have s8 := same_new (o := .lst (js.map V.str)) nu
      have e8 := s8 _ _ e7
      have hn : valV kvs (Sum.inr m : Key) = none := hh.no fun hm => by
        rw [sr.names, List.map_take] at hm
        have hm2 : m ∈ (ds.map markOf).take i := by
          rw [List.map_map] at hm
          exact hm
        have hy : (ds.map markOf)[i]? = some m := by rw [List.getElem?_map, he, ← em]; rfl
        obtain ⟨j, hj⟩ := List.getElem?_of_mem hm2
        rw [List.getElem?_take] at hj
        by_cases w : j < i
        · rw [if_pos w] at hj
          obtain ⟨h1, h1'⟩ := List.getElem?_eq_some_iff.mp hj
          obtain ⟨h2, h2'⟩ := List.getElem?_eq_some_iff.mp hy
          exact List.pairwise_iff_getElem.mp nd j i h1 h2 w (h1'.trans h2'.symm)
        · rw [if_neg w] at hj
          cases hj
      have lk : kvs.length ≤ 12 := by rw [hh.len, sr.len, List.length_take]; omega
      refine ⟨kvs, Sum.inr m, rfl, e8, slineL (by omega), same_mut (s7.trans s8) nD, ?_⟩
      rw [putK_new _ hn]
      refine ⟨_, gs ++ [(m, js)], upd_same, ((hh.to s8).upd e8).app (.cons ?_ .nil), ?_⟩
      · rw [upd_ne (fun z => by rw [← z, upd_same] at e8; cases e8)]
        exact upd_same
      · rw [List.take_add_one, hp]
        exact SortR.snoc pm so sr
    rintro H7 ⟨s7, kvs, gs, e7, hh, sr⟩
    rw [List.take_of_length_le (by rw [List.length_map, lvs]; exact Nat.le_refl _)] at sr
    have s07 := s06.trans s7
    have ndg : (gs.map (·.1)).Nodup := by
      rw [sr.names, List.map_map]
      exact nd
    have eb7 := s07 _ _ eb
    -- the same in order
    refine ⟨_, rfl, D, kvs, gs.map (·.1), rfl, .inl e7, hh.keys, ?_, fun ys2 P pm2 so2 nP => ?_⟩
    · rw [List.length_map, sr.len, List.length_map]; omega
    have sP := same_new (o := .lst (ys2.map V.str)) nP
    have eP : (upd H7 P (.lst (ys2.map V.str))) P = some (.lst (ys2.map V.str)) := upd_same
    have l12 : ys2.length ≤ 12 := by rw [pm2.length_eq, List.length_map, sr.len, List.length_map]; omega
    have e7P := sP _ _ e7
    have hhP := hh.to sP
    have eb8 := sP _ _ eb7
    have s08 := s07.trans sP
    generalize upd H7 P (.lst (ys2.map V.str)) = H8 at sP eP e7P hhP eb8 s08 ⊢
    have lP : (ys2.map V.str).length = ys2.length := List.length_map _
    refine ⟨P, rfl, ⟨_, .inl (.inl eP)⟩, fun D2 nD2 => ?_⟩
    refine dc_it (walk_list (xs := ys2.map V.str)) (fun i H9 => Same H8 H9 ∧ ∃ kvs2 hs, H9 D2 = some (.dK kvs2) ∧ Held H9 kvs2 hs ∧ hs.map (·.1) = ys2.take i ∧ ∀ q ∈ hs, q ∈ gs) ⟨same_new nD2, [], [], upd_same, .nil, rfl, fun q hq => (List.not_mem_nil hq).elim⟩ (fun i H9 _ z => .inl (.inl (z.1 _ _ eP))) ?_ ?_
    · rintro i x H9 H9' hi9 ⟨s9, kvs2, hs, e9, hh9, hn9, hm9⟩ ⟨rfl, hx⟩
      obtain ⟨y, hy, rfl⟩ := getmap hx
      have hyg : y ∈ gs.map (·.1) := pm2.mem_iff.mp (List.mem_of_getElem? hy)
      obtain ⟨g, hg, rfl⟩ := List.mem_map.mp hyg
      obtain ⟨L2, v2, eL2⟩ := (hhP.to s9).val ndg hg
      have ndy : ys2.Nodup := pm2.nodup_iff.mpr ndg
      have hnv : valV kvs2 (Sum.inr g.1 : Key) = none := hh9.no fun hm => by
        rw [hn9] at hm
        obtain ⟨j, hj⟩ := List.getElem?_of_mem hm
        rw [List.getElem?_take] at hj
        by_cases w : j < i
        · rw [if_pos w] at hj
          obtain ⟨h1, h1'⟩ := List.getElem?_eq_some_iff.mp hj
          obtain ⟨h2, h2'⟩ := List.getElem?_eq_some_iff.mp hy
          exact List.pairwise_iff_getElem.mp ndy j i h1 h2 w (h1'.trans h2'.symm)
        · rw [if_neg w] at hj
          cases hj
      have lk : kvs2.length ≤ 12 := by
        have := congrArg List.length hn9
        rw [List.length_map, List.length_take] at this
        rw [hh9.len]
        omega
      refine ⟨rfl, _, rfl, _, rfl, _, rfl, D, _, rfl, .inl ⟨kvs, Sum.inr g.1, .inl (s9 _ _ e7P), rfl, v2.symm⟩, kvs2, Sum.inr g.1, rfl, e9, slineL (by omega), same_mut s9 nD2, ?_⟩
      rw [putK_new _ hnv]
      refine ⟨_, hs ++ [g], upd_same, (hh9.upd e9).app (.cons ?_ .nil), ?_, fun q hq => ?_⟩
      · rw [upd_ne (fun z => by rw [z, e9] at eL2; cases eL2)]
        exact eL2
      · rw [List.map_append, hn9, List.take_add_one, hy]
        rfl
      · rcases List.mem_append.mp hq with h | h
        · exact hm9 q h
        · rw [List.mem_singleton.mp h]; exact hg
    rintro H9 ⟨s9, kvs2, hs, e9, hh9, hn9, hm9⟩
    rw [lP, List.take_length] at hn9
    have eb9 := s9 _ _ eb8
    have s09 := s08.trans s9
    refine ⟨_, rfl, b, CT, dx, [], rfl, eb9, BT.cl, BT.na _ (by decide), by decide, ?_⟩
    have nDb : D2 ≠ b := fun z => by rw [z, eb9] at e9; cases e9
    refine q1 (tb_good hi l0 hl hall hd hk10) ds hs _ hi ⟨?_, by rw [hn9]; exact so2, fun q hq => ?_⟩ ⟨dx, D2, kvs2, by rw [upd_same, put_held], by rw [upd_ne nDb]; exact e9, hh9.of fun L xs e => by rw [upd_ne (fun z => by rw [z, eb9] at e; cases e)]; exact e⟩ fun c o n e => ?_
    · rw [hn9, ← sr.names]
      exact pm2
    · exact sr.mem (hm9 q hq)
    · rw [upd_ne n]
      exact s09 _ _ e
end
end Th
namespace Th
open PySem PySem.Spec PyProof.Rows L2
abbrev s_l_fields : Stmt := topS 38
theorem sc_l_fields : FnScope ["_law_e"] ["_law_e"] (defScope s_l_fields) := ⟨rfl, rfl, rfl, by decide +kernel, rfl, by decide +kernel, by decide +kernel⟩
def atC : List Str := ["InvalidLot", "InvalidFind", "InvalidWord", "InvalidFact"]
def nameC : List Str := ["DuplicateName", "UnknownName", "UnknownFind"]
/-- the fields that are told of an error -/
def FlA (code : Str) (fs : List (Str × V)) (ws : List V) : Prop :=
  (code = "InvalidName" ∧ ∃ v, fs.lookup ("value" : Str) = some v ∧ ws = [v]) ∨ (code ∈ atC ∧ ∃ v, fs.lookup ("at" : Str) = some v ∧ ws = [v]) ∨ (code ∈ nameC ∧ ∃ v, fs.lookup ("name" : Str) = some v ∧ ws = [v]) ∨
  (code = "InvalidText" ∧ ∃ v u, fs.lookup ("line" : Str) = some v ∧ fs.lookup ("why" : Str) = some u ∧ ws = [v, u]) ∨ (code = "TooMany" ∧ ∃ v, fs.lookup ("most" : Str) = some v ∧ ws = [v]) ∨
  (code ≠ "InvalidName" ∧ code ∉ atC ∧ code ∉ nameC ∧ code ≠ "InvalidText" ∧ code ≠ "TooMany" ∧ ws = [])
theorem FlA.c1 {code : Str} {fs : List (Str × V)} {ws : List V} (h : FlA code fs ws) (e : code = "InvalidName") : ∃ v, fs.lookup ("value" : Str) = some v ∧ ws = [v] := by
  subst e
  rcases h with ⟨_, h⟩ | ⟨m, _⟩ | ⟨m, _⟩ | ⟨m, _⟩ | ⟨m, _⟩ | ⟨m, _⟩
  · exact h
  · exact absurd m (by decide +kernel)
  · exact absurd m (by decide +kernel)
  · exact absurd m (by decide +kernel)
  · exact absurd m (by decide +kernel)
  · exact absurd rfl m
theorem FlA.c2 {code : Str} {fs : List (Str × V)} {ws : List V} (h : FlA code fs ws) (e : code ∈ atC) : ∃ v, fs.lookup ("at" : Str) = some v ∧ ws = [v] := by
  rcases h with ⟨m, _⟩ | ⟨_, h⟩ | ⟨m, _⟩ | ⟨m, _⟩ | ⟨m, _⟩ | ⟨_, m, _⟩
  · rw [m] at e; exact absurd e (by decide +kernel)
  · exact h
  · exact absurd m ((by decide +kernel : ∀ c ∈ atC, c ∉ nameC) code e)
  · rw [m] at e; exact absurd e (by decide +kernel)
  · rw [m] at e; exact absurd e (by decide +kernel)
  · exact absurd e m
theorem FlA.c3 {code : Str} {fs : List (Str × V)} {ws : List V} (h : FlA code fs ws) (e : code ∈ nameC) : ∃ v, fs.lookup ("name" : Str) = some v ∧ ws = [v] := by
  rcases h with ⟨m, _⟩ | ⟨m, _⟩ | ⟨_, h⟩ | ⟨m, _⟩ | ⟨m, _⟩ | ⟨_, _, m, _⟩
  · rw [m] at e; exact absurd e (by decide +kernel)
  · exact absurd m ((by decide +kernel : ∀ c ∈ nameC, c ∉ atC) code e)
  · exact h
  · rw [m] at e; exact absurd e (by decide +kernel)
  · rw [m] at e; exact absurd e (by decide +kernel)
  · exact absurd e m
theorem FlA.c4 {code : Str} {fs : List (Str × V)} {ws : List V} (h : FlA code fs ws) (e : code = "InvalidText") : ∃ v u, fs.lookup ("line" : Str) = some v ∧ fs.lookup ("why" : Str) = some u ∧ ws = [v, u] := by
  subst e
  rcases h with ⟨m, _⟩ | ⟨m, _⟩ | ⟨m, _⟩ | ⟨_, h⟩ | ⟨m, _⟩ | ⟨_, _, _, m, _⟩
  · exact absurd m (by decide +kernel)
  · exact absurd m (by decide +kernel)
  · exact absurd m (by decide +kernel)
  · exact h
  · exact absurd m (by decide +kernel)
  · exact absurd rfl m
theorem FlA.c5 {code : Str} {fs : List (Str × V)} {ws : List V} (h : FlA code fs ws) (e : code = "TooMany") : ∃ v, fs.lookup ("most" : Str) = some v ∧ ws = [v] := by
  subst e
  rcases h with ⟨m, _⟩ | ⟨m, _⟩ | ⟨m, _⟩ | ⟨m, _⟩ | ⟨_, h⟩ | ⟨_, _, _, _, m, _⟩
  · exact absurd m (by decide +kernel)
  · exact absurd m (by decide +kernel)
  · exact absurd m (by decide +kernel)
  · exact absurd m (by decide +kernel)
  · exact h
  · exact absurd rfl m
theorem FlA.c6 {code : Str} {fs : List (Str × V)} {ws : List V} (h : FlA code fs ws) (h1 : code ≠ "InvalidName") (h2 : code ∉ atC) (h3 : code ∉ nameC) (h4 : code ≠ "InvalidText") (h5 : code ≠ "TooMany") : ws = [] := by
  rcases h with ⟨m, _⟩ | ⟨m, _⟩ | ⟨m, _⟩ | ⟨m, _⟩ | ⟨m, _⟩ | ⟨_, _, _, _, _, h⟩
  · exact absurd m h1
  · exact absurd m h2
  · exact absurd m h3
  · exact absurd m h4
  · exact absurd m h5
  · exact h
theorem dec_str {x y : Str} : decide (V.str x = V.str y) = decide (x = y) := by
  rw [Bool.eq_iff_iff, decide_eq_true_eq, decide_eq_true_eq]
  exact ⟨fun h => V.str.inj h, fun h => by rw [h]⟩
theorem fld_of {K : PySem.W.Frag} {mg : Str → Option Value} {code : Str} {fs : List (Str × V)} {C dd : Addr} {H : Hp} (E : IsExc K mg code fs (.ref C) (some dd) H) : XfC K C ∧ (∀ (f : Str) v, fs.lookup f = some v → PySem.W.findIn K (.ref C) f = some none) ∧ H dd = some (.xd fs) := by
  obtain ⟨⟨C', dd', e1, e2, T, nf, e, _⟩, _⟩ := E
  cases e1
  cases e2
  exact ⟨T, fun f v l => nf f (List.mem_map.mpr ⟨(f, v), PySem.mem_of_lookup l, rfl⟩), e⟩
section
variable {P : Program} {w : World} {K : PySem.W.Frag} {mg : Str → Option Value} {base : Heap} {CB CT : Addr}
theorem has_l_fields (Z : Zs mg) (A : At K mg "_law_fields" s_l_fields ["_law_e"]) : HasQ P w K mg base "_law_fields" s_l_fields 1 ["_law_e"] (spFields K mg FlA) := by
  obtain ⟨f, fd, F, mg1, bd⟩ := A
  refine ⟨f, fd, ?_, mg1, F.kp, bd, F⟩
  refine quiet_ok F sc_l_fields (fun p vs H Q E h => ?_) (fun cdv A outer s H vs Q E p hr h => ?_)
  · obtain ⟨C, dd, code, fs, ws, rfl, _⟩ := h
    rfl
  · obtain ⟨C, dd, code, fs, ws, rfl, PX, X, fl, lw, q⟩ := h
    refine ⟨_, (pss_cons (ps_if (pt_cmpR op_eq (pe_pinf (p := p) List.mem_cons_self (pv 0)) pe_str (nomark _)) (pss_one (ps_ret (pe_tup (pa_cons (pe_pinf (p := p) List.mem_cons_self (pv 0)) pa_nil)))) pss_nil) (pss_cons (ps_if (pt_cmpR op_in_seq (pe_pinf (p := p) List.mem_cons_self (pv 0)) (pe_tup (pa_cons pe_str (pa_cons pe_str (pa_cons pe_str (pa_cons pe_str pa_nil))))) (by rfl)) (pss_one (ps_ret (pe_tup (pa_cons (pe_pinf (p := p) List.mem_cons_self (pv 0)) pa_nil)))) pss_nil) (pss_cons (ps_if (pt_cmpR op_in_seq (pe_pinf (p := p) List.mem_cons_self (pv 0)) (pe_tup (pa_cons pe_str (pa_cons pe_str (pa_cons pe_str pa_nil)))) (by rfl)) (pss_one (ps_ret (pe_tup (pa_cons (pe_pinf (p := p) List.mem_cons_self (pv 0)) pa_nil)))) pss_nil) (pss_cons (ps_if (pt_cmpR op_eq (pe_pinf (p := p) List.mem_cons_self (pv 0)) pe_str (nomark _)) (pss_one (ps_ret (pe_tup (pa_cons (pe_pinf (p := p) List.mem_cons_self (pv 0)) (pa_cons (pe_pinf (p := p) List.mem_cons_self (pv 0)) pa_nil))))) pss_nil) (pss_one (ps_ret (pe_ifExp (pt_cmpR op_eq (pe_pinf (p := p) List.mem_cons_self (pv 0)) pe_str (nomark _)) (pe_tup (pa_cons (pe_pinf (p := p) List.mem_cons_self (pv 0)) pa_nil)) (pe_tup pa_nil)))))))), ?_⟩
    obtain ⟨T, nf, ed⟩ := fld_of X
    have lc := X.code
    have hin : ∀ (xs : List Str), inV (V.str code) (xs.map V.str) = decide (code ∈ xs) := fun xs => inS code xs
    have s0 := Same.refl H
    refine ⟨_, rfl, rfl, C, dd, fs, _, PX, T, nf _ _ lc, ed, lc, rfl, _, rfl, ?_⟩
    rw [dec_str]
    refine ite2 (fun c1 => ?_) (fun c1 => ?_)
    · obtain ⟨v, l, rfl⟩ := fl.c1 (of_decide_eq_true c1)
      exact ⟨_, rfl, rfl, C, dd, fs, _, PX, T, nf _ _ l, ed, l, (by show 1 ≤ sizeLine; decide), fun r nr => q r _ (s0.trans (same_new nr)) (s0.free nr) upd_same⟩
    have e1 : code ≠ "InvalidName" := fun z => c1 (decide_eq_true z)
    refine ⟨_, rfl, rfl, C, dd, fs, _, PX, T, nf _ _ lc, ed, lc, (by show 4 ≤ sizeLine; decide), fun t1 n1 => ⟨t1, _, rfl, .inr (.inl (.inl upd_same)), rfl, rfl, _, rfl, ?_⟩⟩
    have s1 := same_new (o := .tup (atC.map V.str)) n1
    rw [if_neg Bool.false_ne_true, show inV (V.str code) [V.str "InvalidLot", V.str "InvalidFind", V.str "InvalidWord", V.str "InvalidFact"] = decide (code ∈ atC) from hin atC]
    refine ite2 (fun c2 => ?_) (fun c2 => ?_)
    · obtain ⟨v, l, rfl⟩ := fl.c2 (of_decide_eq_true c2)
      exact ⟨_, rfl, rfl, C, dd, fs, _, PX, T, nf _ _ l, s1 _ _ ed, l, (by show 1 ≤ sizeLine; decide), fun r nr => q r _ (s1.trans (same_new nr)) (s1.free nr) upd_same⟩
    have e2 : code ∉ atC := fun z => c2 (decide_eq_true z)
    refine ⟨_, rfl, rfl, C, dd, fs, _, PX, T, nf _ _ lc, s1 _ _ ed, lc, (by show 3 ≤ sizeLine; decide), fun t2 n2 => ⟨t2, _, rfl, .inr (.inl (.inl upd_same)), rfl, rfl, _, rfl, ?_⟩⟩
    have s2 := s1.trans (same_new (o := .tup (nameC.map V.str)) n2)
    rw [if_neg Bool.false_ne_true, show inV (V.str code) [V.str "DuplicateName", V.str "UnknownName", V.str "UnknownFind"] = decide (code ∈ nameC) from hin nameC]
    refine ite2 (fun c3 => ?_) (fun c3 => ?_)
    · obtain ⟨v, l, rfl⟩ := fl.c3 (of_decide_eq_true c3)
      exact ⟨_, rfl, rfl, C, dd, fs, _, PX, T, nf _ _ l, s2 _ _ ed, l, (by show 1 ≤ sizeLine; decide), fun r nr => q r _ (s2.trans (same_new nr)) (s2.free nr) upd_same⟩
    have e3 : code ∉ nameC := fun z => c3 (decide_eq_true z)
    refine ⟨_, rfl, rfl, C, dd, fs, _, PX, T, nf _ _ lc, s2 _ _ ed, lc, rfl, _, rfl, ?_⟩
    rw [dec_str]
    refine ite2 (fun c4 => ?_) (fun c4 => ?_)
    · obtain ⟨v, u, l, l2, rfl⟩ := fl.c4 (of_decide_eq_true c4)
      exact ⟨_, rfl, rfl, C, dd, fs, _, PX, T, nf _ _ l, s2 _ _ ed, l, _, rfl, rfl, C, dd, fs, _, PX, T, nf _ _ l2, s2 _ _ ed, l2, (by show 2 ≤ sizeLine; decide), fun r nr => q r _ (s2.trans (same_new nr)) (s2.free nr) upd_same⟩
    have e4 : code ≠ "InvalidText" := fun z => c4 (decide_eq_true z)
    refine ⟨_, rfl, rfl, C, dd, fs, _, PX, T, nf _ _ lc, s2 _ _ ed, lc, rfl, _, rfl, ?_⟩
    rw [dec_str]
    refine ite2 (fun c5 => ?_) (fun c5 => ?_)
    · obtain ⟨v, l, rfl⟩ := fl.c5 (of_decide_eq_true c5)
      exact ⟨_, rfl, rfl, C, dd, fs, _, PX, T, nf _ _ l, s2 _ _ ed, l, (by show 1 ≤ sizeLine; decide), fun r nr => q r _ (s2.trans (same_new nr)) (s2.free nr) upd_same⟩
    · have e5 : code ≠ "TooMany" := fun z => c5 (decide_eq_true z)
      have ew := fl.c6 e1 e2 e3 e4 e5
      subst ew
      exact ⟨Nat.zero_le _, fun r nr => q r _ (s2.trans (same_new nr)) (s2.free nr) upd_same⟩
end
end Th
namespace Th
open PySem PySem.Spec PyProof.Rows L2
abbrev s_l_try : Stmt := topS 39
theorem sc_l_try : FnScope ["_law_ask", "_law_e"] ["_law_ask"] (defScope s_l_try) := ⟨rfl, rfl, rfl, by decide +kernel, rfl, by decide +kernel, by decide +kernel⟩

theorem gives_l_try {X : Cx} {c1 c2 : Addr} (hr : Room 4 X.A) (hm1 : X.mg "FindError" = some (.ref c1)) (hm2 : X.mg "Missing" = some (.ref c2)) (h_l_fields : HasQ X.prog X.w X.K X.mg X.base "_law_fields" s_l_fields 1 ["_law_e"] (spFields X.K X.mg FlA)) {g : Addr} {cdg : Value} {q : Str} :
    LamX.GivesTo X ["_law_ask", "_law_e"] "_law_try" (defScope s_l_try) g cdg (defBody s_l_try) "_law_ask" q (TTry X.K X.mg FlA) := by
  obtain ⟨f_l_fields, fd_l_fields, G_l_fields, m_l_fields, k_l_fields, b_l_fields, F_l_fields⟩ := h_l_fields
  intro f c' s H Q tl act hc h
  have hrq : Room 1 (X.A.deeper (envOfC "_law_try" (defScope s_l_try) s.heap.objs.size g cdg)) := (hr.deeper _).mono (by decide)
  refine ⟨_, pss_one (ps_try_two (i := 1)
      (tb := fun W D σ H => ∃ Ech : XK, (∀ cls d σ' H', Ech cls d H' → W cls d σ' H') ∧ σ[0]? = some (some (.ref f)) ∧ H c' = some (LamX.CodeO c' q) ∧ tl Ech H fun v H1 => ([.str "told", v] : List V).length ≤ sizeLine ∧ ∀ p, H1 p = none → D.rt (.ref p) (upd H1 p (.tup [.str "told", v])))
      (ts := fun a cls d => tRet (tOp (rCatT X.K) (tTup (tCons (tC (.str "no")) (tCons (tPinA X.K 1 a cls d "code") tNil))) (tFieldsA X.K X.mg FlA 1 a cls d)))
      rfl rfl sc_l_try.nd rfl rfl (by rfl) (by decide) hm1 (by rfl) (by decide) hm2 (fun W pn xe tk => ?_) (fun a oe cls d pn hz hf => ?_)), ?_⟩
  · refine ⟨fun pins s' σ H' D I h' => ?_⟩
    obtain ⟨Ech, hW, h1, h2, h3⟩ := h'
    exact (pss_one (ps_ret (pe_tup (pa_cons pe_str (pa_cons (act W pn xe Ech _ _ tk hW) pa_nil))))).run pins s' σ H' D I ⟨h1, h2, h3⟩
  · exact pss_one (ps_ret (pe_op op_catT (pe_tup (pa_cons pe_str (pa_cons (pe_pinA (i := 1) List.mem_cons_self hz hf (pv 1)) pa_nil)))
        (pe_fieldsA (i := 1) List.mem_cons_self hz hf G_l_fields ⟨hrq.dp, hrq.un⟩ (by rfl) m_l_fields k_l_fields b_l_fields (pa_cons (pv 1) pa_nil))))
  · refine ⟨_, fun cls d σ' H' hE => ?_, rfl, hc, h⟩
    obtain ⟨code, fs, ws, X1, fl, lw, hq⟩ := hE
    obtain ⟨C, dd, rfl, rfl, T, nf, ed, ca⟩ := X1.ex
    have l1 : fs.lookup ("code" : Str) = some (V.str code) := X1.code
    refine ⟨ca c1 c2 hm1 hm2, fun a na hl => ?_⟩
    have at1 : (σ'.set 1 (some (V.ref a)))[1]? = some (some (V.ref a)) := List.getElem?_set_self hl
    refine ⟨at1, C, dd, fs, _, rfl, rfl, T, nf _ (List.mem_map.mpr ⟨_, PySem.mem_of_lookup l1, rfl⟩), ed, l1, (by show 2 ≤ sizeLine; decide), fun r nr => ?_⟩
    have s1 := same_new (o := .tup [.str "no", .str code]) nr
    have X2 : IsExc X.K X.mg code fs (.ref C) (some dd) (upd H' r (.tup [.str "no", .str code])) := ⟨⟨C, dd, rfl, rfl, T, nf, s1 _ _ ed, ca⟩, l1⟩
    refine ⟨at1, C, dd, code, fs, ws, rfl, rfl, X2, fl, lw, fun u H2 s2 nu eu => ?_⟩
    have er : H2 r = some (.tup [.str "no", .str code]) := s2 _ _ upd_same
    refine ⟨r, u, [.str "no", .str code], ws, rfl, rfl, .inl (.inl er), .inl (.inl eu), (fun z => nomatch z), ?_, fun e => ?_, fun ne z nz => ?_⟩
    · have := sizeLine_eq
      show 2 + ws.length ≤ sizeLine
      omega
    · subst e
      exact hq r H2 (s1.trans s2) nr er
    · exact hq z _ ((s1.trans s2).trans (same_new nz)) ((s1.trans s2).free nz) upd_same
end Th
namespace Th
open PySem PySem.Spec PyProof.Rows L2
abbrev s_p_law : Stmt := topS 46
theorem sc_p_law : FnScope ["_law_script", "_law_state", "_law_turn", "_law_tags", "_law_sorts", "_law_rows", "_law_again", "_law_given", "_law_due", "_law_kept", "_law_got", "_law_one_z", "_law_row", "_law_x"] ["_law_script"] (defScope s_p_law) := ⟨rfl, rfl, rfl, by decide +kernel, rfl, by decide +kernel, by decide +kernel⟩
def spLawTs (K : PySem.W.Frag) (T : List (Addr × Str)) : Sp := fun vs H Q _ => ∃ (a : Addr) (ns : List Int), vs = [.ref a] ∧ SqL K H a (ns.map V.int) ∧ ns.length ≤ 63 ∧ LamX.Tabs T H ∧ ∀ H', Q (.bl true) H'
theorem due_eqv (o : Option (Str × PyData)) : PyData.eqv (dueU o) (.tuple []) = o.isNone := by
  cases o with
  | none => simp [dueU, PyData.eqv, PyData.eqvAll]
  | some cv => show PyData.eqv (.tuple [.str "no", .str cv.1, cv.2]) (.tuple []) = false; simp [PyData.eqv, PyData.eqvAll]
theorem seqI {K : PySem.W.Frag} {H : Hp} {v : V} {d : PyData} {ds : List PyData} (r : Da K H v d) (h : itemsF d = some ds) : ∃ b vs, v = .ref b ∧ (SqL K H b vs ∨ SqT K H b vs) ∧ DaAll K H vs ds := by
  have ht : tyD d = "list" ∨ tyD d = "tuple" := by
    cases d with
    | list _ => exact .inl rfl
    | tuple _ => exact .inr rfl
    | _ => cases h
  obtain ⟨b, vs, ds', e, s, al, h'⟩ := seqF r ht
  cases h.symm.trans h'
  exact ⟨b, vs, e, s, al⟩
theorem bk_any {K : PySem.W.Frag} {H H' : Hp} {v : V} {val : PyData} (a : (∃ i, val = .int i) ∨ ∃ x, val = .str x ∧ isNm x = true) (h : Da K H v val) : Da K H' v val := by
  rcases a with ⟨i, rfl⟩ | ⟨x, rfl, _⟩
  · cases h; exact .int _
  · cases h; exact .str _

theorem tb_cls {d : PyData} {c : Str} {val : PyData} (h : tbDue d = some (c, val)) : c ∈ ([Str.ofString "InvalidFind", Str.ofString "TooMany", Str.ofString "DuplicateName"] : List Str) ∧ ((∃ i, val = .int i) ∨ ∃ x, val = .str x ∧ isNm x = true) := by
  unfold tbDue at h
  split at h
  · cases h; exact ⟨by simp, .inl ⟨_, rfl⟩⟩
  · rename_i ds hi
    split at h
    · cases h; exact ⟨by simp, .inl ⟨_, rfl⟩⟩
    · split at h
      · cases h; exact ⟨by simp, .inl ⟨_, rfl⟩⟩
      · split at h
        · cases h; exact ⟨by simp, .inl ⟨_, rfl⟩⟩
        · rename_i hf
          split at h
          · rename_i x hx
            cases h
            refine ⟨by simp, .inr ⟨_, rfl, ?_⟩⟩
            unfold dupAt at hx
            obtain ⟨k, hk, rfl⟩ := Option.map_eq_some_iff.mp hx
            unfold firstIx at hk hf
            have hk := List.mem_range.mp (List.mem_of_find?_eq_some hk)
            rw [List.length_map] at hk
            have he : ds[k]? = some ds[k] := List.getElem?_eq_getElem hk
            have hr := List.find?_eq_none.mp hf k (List.mem_range.mpr hk)
            rw [getDd he] at hr
            have hr : rowD ds[k] = true := by simpa using hr
            obtain ⟨m, l, ks, e, nm, _⟩ := row_shape hr
            rw [List.getD_eq_getElem?_getD, List.getElem?_map, he, e]
            exact nm
          · split at h
            · cases h; exact ⟨by simp, .inl ⟨_, rfl⟩⟩
            · cases h
theorem tb_lv (d : PyData) : Lv 5 (dueU (tbDue d)) := by
  cases h : tbDue d with
  | none => exact ⟨Nat.zero_le _, fun e he => (List.not_mem_nil he).elim⟩
  | some cv =>
    obtain ⟨c, val⟩ := cv
    obtain ⟨hm, ha⟩ := tb_cls h
    refine ⟨by show 3 ≤ 60; decide, fun e he => ?_⟩
    simp only [List.mem_cons, List.not_mem_nil, or_false] at he
    rcases he with rfl | rfl | rfl
    · exact lv_of 4 _ (by decide +kernel)
    · have all : ∀ c ∈ ([Str.ofString "InvalidFind", Str.ofString "TooMany", Str.ofString "DuplicateName"] : List Str), lvB 4 (.str c) = true := by decide +kernel
      exact lv_of 4 _ (all c hm)
    · rcases ha with ⟨i, rfl⟩ | ⟨x, rfl, nx⟩
      · trivial
      · exact lv_nm nx
/-- what a try of Table(v) tells -/
def TolT (K : PySem.W.Frag) (C : Addr) (d : PyData) (H : Hp) (g : V) : Prop := match tbDue d with
  | some cv => Da K H g (dueU (some cv))
  | none => ∃ (p b : Addr) (ds : List PyData) (hs : List (Str × List Str)), g = .ref p ∧ SqT K H p [.str "told", .ref b] ∧ itemsF d = some ds ∧ TabOf (ds.map rowP) hs ∧ TabW K H C b hs
theorem TolT.to {K : PySem.W.Frag} {C : Addr} {d : PyData} {H H' : Hp} {g : V} (h : TolT K C d H g) (s : Same H H') : TolT K C d H' g := by
  unfold TolT at *
  split at h
  · exact h.to s
  · obtain ⟨p, b, ds, hs, e1, e2, e3, e4, e5⟩ := h
    exact ⟨p, b, ds, hs, e1, same_t s e2, e3, e4, e5.to s⟩
theorem try_tab {K : PySem.W.Frag} {mg : Str → Option Value} {C : Addr} {d : PyData} {H : Hp} {Q : VK} {tl : XK → Hp → VK → Prop}
    (htl : ∀ (E : XK) (Q0 : VK), (tbDue d = none → ∀ (b : Addr) (ds : List PyData) (hs : List (Str × List Str)) H', Same H H' → itemsF d = some ds → TabOf (ds.map rowP) hs → TabW K H' C b hs → Q0 (.ref b) H') → (∀ c val, tbDue d = some (c, val) → ∀ cls dd v' H', Same H H' → IsExc K mg c [("code", .str c), (fldOf c, v')] cls dd H' → Da K H' v' val → E cls dd H') → tl E H Q0)
    (q : ∀ (g : V) H', Same H H' → TolT K C d H' g → Q g H') : TTry K mg FlA tl H Q := by
  refine htl _ _ (fun hn b ds hs H' s hi ho tw => ⟨(by show 2 ≤ sizeLine; decide), fun r nr => ?_⟩) (fun c val hc cls dd v' H' s ie rv => ?_)
  · have sr := same_new (o := .tup [.str "told", .ref b]) nr
    refine q _ _ (s.trans sr) ?_
    unfold TolT
    rw [hn]
    exact ⟨r, b, ds, hs, rfl, .inl (.inl upd_same), hi, ho, tw.to sr⟩
  · obtain ⟨hm, ha⟩ := tb_cls hc
    have hfl : FlA c [("code", .str c), (fldOf c, v')] [v'] := by
      simp only [List.mem_cons, List.not_mem_nil, or_false] at hm
      rcases hm with rfl | rfl | rfl
      · exact .inr (.inl ⟨by decide +kernel, v', rfl, rfl⟩)
      · exact .inr (.inr (.inr (.inr (.inl ⟨rfl, v', rfl, rfl⟩))))
      · exact .inr (.inr (.inl ⟨by decide +kernel, v', rfl, rfl⟩))
    refine ⟨c, _, [v'], ie, hfl, by show 1 ≤ 1000; decide, fun r H'' s2 nr er => ?_⟩
    refine q _ _ (s.trans s2) ?_
    unfold TolT
    rw [hc]
    exact Da.newT er (.cons (.str _) (.cons (.str _) (.cons (bk_any ha rv) .nil)))
theorem mk_table {K : PySem.W.Frag} {mg : Str → Option Value} {C : Addr} {d : PyData} {v : V} {H : Hp} {E : XK} {Q : VK} (rv : Da K H v d) (lv : ∀ ds, itemsF d = some ds → ∀ e ∈ ds, Lv 5 e) (h64 : ∀ ds, itemsF d = some ds → (∀ e ∈ ds, rowD e = true) → (allK (ds.map rowP)).length < 64)
    (h1 : tbDue d = none → ∀ (b : Addr) (ds : List PyData) (hs : List (Str × List Str)) H', Same H H' → itemsF d = some ds → TabOf (ds.map rowP) hs → TabW K H' C b hs → Q (.ref b) H') (h2 : ∀ c val, tbDue d = some (c, val) → ∀ cls dd v' H', Same H H' → IsExc K mg c [("code", .str c), (fldOf c, v')] cls dd H' → Da K H' v' val → E cls dd H') :
    ∀ x dx : Addr, H x = none → H dx = none → dx ≠ x → spTabI K mg C [.ref x, v] (upd (upd H dx (.own x)) x (.ins C dx [])) (fun v H2 => v = .non ∧ Q (.ref x) H2) E := fun b dx nb ndx ne => by
  have sb : Same H (upd (upd H dx (.own b)) b (.ins C dx [])) := (same_new ndx).trans (same_new (by rw [upd_ne ne.symm]; exact nb))
  refine ⟨b, dx, v, d, rfl, rv.to sb, lv, upd_same, h64, fun hok ds hs H1 hi ho tw keep => ⟨rfl, ?_⟩, fun c val hc cls dd v' H' s ie rv' => h2 c val hc cls dd v' H' (sb.trans s) ie rv'⟩
  refine h1 hok b ds hs H1 (fun c o e => ?_) hi ho tw
  have n : c ≠ b := fun z => by rw [z, nb] at e; cases e
  exact keep c o n (sb c o e)

theorem StockH.hid {D : DS} {H : Hp} (d : Drw D H) : ∀ {us : List V} {hs : List (Str × List Str)}, StockH H us hs → StockH (hid D.p H) us hs
  | _, _, .nil => .nil
  | _, _, .cons h1 h2 r => .cons (by rw [hid_ne (tup_ne d h1)]; exact h1) (by rw [hid_ne (lst_noD d h2)]; exact h2) (StockH.hid d r)
theorem stock_ok {xs ss : List Str} {hs : List (Str × List Str)} (nx : Nms xs) (nss : Nms ss) (l : ss.length ≤ 12) (ok : StockOk xs ss hs) {p : Str × List Str} (hp : p ∈ hs) : Okd 5 5 2000 (rowT p) := by
  have lp : p.2.length ≤ 12 := Nat.le_trans (nodup_sub (ok.nd p hp) (ok.sub p hp)) l
  have n1 : isNm p.1 = true := nx.2 _ (by rw [← ok.nm]; exact List.mem_map.mpr ⟨p, hp, rfl⟩)
  have o1 : Okd 4 4 800 (.list (p.2.map .str)) := (Okd.list (j := 3) (k := 3) (n := 62) (fun e he => by obtain ⟨x, hx, rfl⟩ := List.mem_map.mp he; exact okd_nm (nss.2 x (ok.sub p hp x hx)) (by decide)) (by rw [List.length_map]; omega)).mono (by decide) (by rw [List.length_map]; omega)
  exact (Okd.tuple (all_two (okd_nm n1 (by decide)) o1) (by show 2 ≤ 60; decide)).mono (by decide) (by show 3 + 2 * 802 ≤ 2000; decide)
theorem flatK_len : ∀ {news : List PyData}, (∀ e ∈ news, (rowK e).length ≤ 6) → (news.flatMap rowK).length ≤ 6 * news.length
  | [], _ => Nat.zero_le _
  | e :: r, h => by
    rw [List.flatMap_cons, List.length_append, List.length_cons]
    have := h e List.mem_cons_self
    have := flatK_len fun x hx => h x (List.mem_cons_of_mem _ hx)
    omega
theorem spoilt_kinds {xs ss : List Str} {hs : List (Str × List Str)} {ds news : List PyData} (ok : StockOk xs ss hs) (l : ss.length ≤ 12) (ln : news.length ≤ 3) (lk : ∀ e ∈ news, (rowK e).length ≤ 6) (hin : ∀ e ∈ ds, e ∈ hs.map rowT ∨ e ∈ news) : (allK (ds.map rowP)).length < 64 := by
  have h := nodup_sub (l := allK (ds.map rowP)) (m := ss ++ news.flatMap rowK) (allK_nodup _) fun x hx => by
    obtain ⟨p, hp, hx⟩ := allK_mem.mp hx
    obtain ⟨e, he, rfl⟩ := List.mem_map.mp hp
    rcases hin e he with h | h
    · obtain ⟨z, hz, rfl⟩ := List.mem_map.mp h
      rw [rowT_P] at hx
      exact List.mem_append_left _ (ok.sub z hz x hx)
    · exact List.mem_append_right _ (List.mem_flatMap.mpr ⟨e, h, hx⟩)
  rw [List.length_append] at h
  have := flatK_len lk
  omega
theorem odds_allK : ∀ d ∈ odds, ∀ ds, itemsF d = some ds → (allK (ds.map rowP)).length < 64 := by
  have h : odds.all (fun d => match itemsF d with | some ds => decide ((allK (ds.map rowP)).length < 64) | none => true) = true := by decide +kernel
  intro d hd ds hi
  have := List.all_eq_true.mp h d hd
  rw [hi] at this
  exact of_decide_eq_true this
theorem rows_match {ds : List PyData} {hs : List (Str × List Str)} {us : List V} {prs : List (V × Str)} (ho : TabOf (ds.map rowP) hs) (nd : (ds.map markOf).Nodup) (lu : us.length = ds.length) (pm : prs.Perm (us.zip (ds.map markOf))) (so : (prs.map (·.2)).Pairwise leS) :
    prs.length = hs.length ∧ ∀ (i : Nat) (q : Str × List Str), hs[i]? = some q → ∃ (x : V) (j : Nat) (e : PyData), (prs.map (·.1))[i]? = some x ∧ us[j]? = some x ∧ ds[j]? = some e ∧ markOf e = q.1 ∧ q.2.Perm (rowK e) ∧ sortedS q.2 = true := by
  have lm : (ds.map markOf).length = us.length := by rw [List.length_map, lu]
  have z2 : (us.zip (ds.map markOf)).map (·.2) = ds.map markOf := List.map_snd_zip (by omega)
  have hp1 : (hs.map (·.1)).Perm (ds.map markOf) := by
    have := ho.pm
    rw [List.map_map] at this
    exact this
  have p2 : (prs.map (·.2)).Perm (ds.map markOf) := by rw [← z2]; exact pm.map _
  have en : prs.map (·.2) = hs.map (·.1) := sorted_one (p2.trans hp1.symm) so (sorted_pair ho.so)
  have ll : prs.length = hs.length := by have := congrArg List.length en; rwa [List.length_map, List.length_map] at this
  refine ⟨ll, fun i q hq => ?_⟩
  have hi := lt_of_get hq
  have hp : prs[i]? = some prs[i] := List.getElem?_eq_getElem (by omega)
  have e2 : prs[i].2 = q.1 := by
    have h1 : (prs.map (·.2))[i]? = some prs[i].2 := by rw [List.getElem?_map, hp]; rfl
    rw [en, List.getElem?_map, hq] at h1
    exact (Option.some.inj h1).symm
  obtain ⟨j, hj⟩ := List.getElem?_of_mem (pm.mem_iff.mp (List.mem_of_getElem? hp))
  obtain ⟨hj1, hj2⟩ := List.getElem?_zip_eq_some.mp hj
  rw [List.getElem?_map] at hj2
  obtain ⟨e, he, em⟩ := Option.map_eq_some_iff.mp hj2
  obtain ⟨r, hr, er, pr, sr⟩ := ho.ks q (List.mem_of_getElem? hq)
  obtain ⟨e', he', rfl⟩ := List.mem_map.mp hr
  have em' : markOf e' = q.1 := er
  have : e' = e := by
    obtain ⟨k, hk⟩ := List.getElem?_of_mem he'
    have a1 : (ds.map markOf)[k]? = some q.1 := by rw [List.getElem?_map, hk, ← em']; rfl
    have a2 : (ds.map markOf)[j]? = some q.1 := by rw [List.getElem?_map, he, ← e2, ← em]; rfl
    have kj := nodup_at nd a1 a2
    subst kj
    rw [hk] at he
    exact Option.some.inj he
  subst this
  exact ⟨prs[i].1, j, e', by rw [List.getElem?_map, hp]; rfl, hj1, he, em', pr, sr⟩
theorem TabW.kd {K : PySem.W.Frag} {H H' : Hp} {C b : Addr} {hs : List (Str × List Str)} (h : TabW K H C b hs) (k : KeepD H H') : TabW K H' C b hs := by
  obtain ⟨dx, da, kvs, e1, e2, e3⟩ := h.ex
  exact ⟨dx, da, kvs, k _ _ e1 (plain_ins _ _ _), k _ _ e2 (plain_dK _), e3.of fun L xs e => k _ _ e (plain_lst _)⟩
theorem TolT.kd {K : PySem.W.Frag} {C : Addr} {d : PyData} {H H' : Hp} {g : V} (h : TolT K C d H g) (k : KeepD H H') : TolT K C d H' g := by
  unfold TolT at *
  split at h
  · exact h.kd k
  · obtain ⟨p, b, ds, hs, e1, e2, e3, e4, e5⟩ := h
    exact ⟨p, b, ds, hs, e1, k.t e2, e3, e4, e5.kd k⟩
section
variable {P : Program} {w : World} {K : PySem.W.Frag} {mg : Str → Option Value} {base : Heap} {CB CT : Addr}
theorem has_p_law {f c Pt c1 c2 : Addr} {fd : FuncData} (Z : Zs mg) (zR : mg "repr" = none) (BT : ClsF K mg CT "Table" ["_held"]) (F : Fun K "law" "law" s_p_law f fd) (hc : fd.code = .ref c) (TB : LamX.TabB base mg c Pt) (hm1 : mg "FindError" = some (.ref c1)) (hm2 : mg "Missing" = some (.ref c2)) {T : List (Addr × Str)} (hmT : (Pt, (envOfC "law" (defScope s_p_law) 0 f (.ref c)).qual ++ "<lambda>") ∈ T) (huT : ∀ p ∈ T, p.1 = Pt → p.2 = (envOfC "law" (defScope s_p_law) 0 f (.ref c)).qual ++ "<lambda>") (h_l_start : Has P w K mg base "_law_start" s_l_start 1 ["_law_script", "_law_own"] (spStart K)) (h_l_names : Has P w K mg base "_law_names" s_l_names 3 ["_law_state", "_law_many"] (spNames K)) (h_l_pick : Has P w K mg base "_law_pick" s_l_pick 2 ["_law_state", "_law_pool"] (spPick K)) (h_l_odd : Has P w K mg base "_law_odd" s_l_odd 3 ["_law_state"] (spOdd K)) (h_l_stock : Has P w K mg base "_law_stock" s_l_stock 3 ["_law_state", "_law_tags", "_law_sorts"] (spStock K)) (h_l_spoilt : Has P w K mg base "_law_spoilt" s_l_spoilt 4 ["_law_state", "_law_rows", "_law_pool"] (spSpoilt7 K)) (h_l_holdings_due : Has P w K mg base "_law_holdings_due" s_l_holdings_due 7 ["_law_x"] (spHoldDue K)) (h_l_same : Has P w K mg base "_law_same" s_l_same 8 ["_law_got", "_law_due"] (spSm K 8)) (h_l_shown : Has P w K mg base "_law_shown" s_l_shown 10 ["_law_made"] (spShownT K CT)) (h_c_Table_init : HasIK P w K mg base CT 10 ["self", "holdings"] (fun d => d = []) (spTabI K mg CT) ["holdings"] gS1) (h_l_fields : HasQ P w K mg base "_law_fields" s_l_fields 1 ["_law_e"] (spFields K mg FlA)) (A_l_try : At K mg "_law_try" s_l_try ["_law_ask"]) : FnG P w K mg base CX0 18 f fd ["_law_script"] (spLawTs K T) := by
  obtain ⟨f_l_start, fd_l_start, G_l_start, m_l_start, k_l_start, b_l_start, F_l_start⟩ := h_l_start
  obtain ⟨f_l_names, fd_l_names, G_l_names, m_l_names, k_l_names, b_l_names, F_l_names⟩ := h_l_names
  obtain ⟨f_l_pick, fd_l_pick, G_l_pick, m_l_pick, k_l_pick, b_l_pick, F_l_pick⟩ := h_l_pick
  obtain ⟨f_l_odd, fd_l_odd, G_l_odd, m_l_odd, k_l_odd, b_l_odd, F_l_odd⟩ := h_l_odd
  obtain ⟨f_l_stock, fd_l_stock, G_l_stock, m_l_stock, k_l_stock, b_l_stock, F_l_stock⟩ := h_l_stock
  obtain ⟨f_l_spoilt, fd_l_spoilt, G_l_spoilt, m_l_spoilt, k_l_spoilt, b_l_spoilt, F_l_spoilt⟩ := h_l_spoilt
  obtain ⟨f_l_holdings_due, fd_l_holdings_due, G_l_holdings_due, m_l_holdings_due, k_l_holdings_due, b_l_holdings_due, F_l_holdings_due⟩ := h_l_holdings_due
  obtain ⟨f_l_same, fd_l_same, G_l_same, m_l_same, k_l_same, b_l_same, F_l_same⟩ := h_l_same
  obtain ⟨f_l_shown, fd_l_shown, G_l_shown, m_l_shown, k_l_shown, b_l_shown, F_l_shown⟩ := h_l_shown
  obtain ⟨fI_c_Table_init, fd_c_Table_init, ds_c_Table_init, dv_c_Table_init, MK_c_Table_init, G_c_Table_init, b_c_Table_init, dd_c_Table_init, dq_c_Table_init, gn_c_Table_init, kn_c_Table_init⟩ := h_c_Table_init
  obtain ⟨f_l_try, fd_l_try, F_l_try, m_l_try, b_l_try⟩ := A_l_try
  refine okCG F hc sc_p_law (fun vs H Q E h => ?_) (fun A outer s H vs Q E gA hr h => ?_)
  · obtain ⟨a, ns, rfl, _⟩ := h
    rfl
  · obtain ⟨a, ns, rfl, hS, hlen, tb, q⟩ := h
    have hdv : dv_c_Table_init = [] := dq_c_Table_init
    subst hdv
    refine ⟨_, (pss_cons (ps_set (i := 1) sc_p_law.nd rfl (Or.inl rfl) (pe_call G_l_start (hr.mono (by decide)) (by rfl) m_l_start k_l_start b_l_start .nil pass0 (pa_cons (pv 0) (pa_cons pe_int pa_nil)))) (pss_cons (ps_for PassesOwn.never rfl (pi_range1 (by rfl) Z.range_ (pa_cons pe_int pa_nil)) (pg_name (i := 2) sc_p_law.nd rfl (Or.inl rfl)) (pss_cons (ps_set (i := 3) sc_p_law.nd rfl (Or.inl rfl) (pe_call G_l_names (hr.mono (by decide)) (by rfl) m_l_names k_l_names b_l_names .nil pass0 (pa_cons (pv 1) (pa_cons (pe_call G_l_pick (hr.mono (by decide)) (by rfl) m_l_pick k_l_pick b_l_pick .nil pass0 (pa_cons (pv 1) (pa_cons (pe_lst (pa_cons pe_int (pa_cons pe_int (pa_cons pe_int (pa_cons pe_int (pa_cons pe_int (pa_cons pe_int (pa_cons pe_int (pa_cons pe_int (pa_cons pe_int pa_nil)))))))))) pa_nil))) pa_nil)))) (pss_cons (ps_set (i := 4) sc_p_law.nd rfl (Or.inl rfl) (pe_call G_l_names (hr.mono (by decide)) (by rfl) m_l_names k_l_names b_l_names .nil pass0 (pa_cons (pv 1) (pa_cons (pe_call G_l_pick (hr.mono (by decide)) (by rfl) m_l_pick k_l_pick b_l_pick .nil pass0 (pa_cons (pv 1) (pa_cons (pe_lst (pa_cons pe_int (pa_cons pe_int (pa_cons pe_int (pa_cons pe_int (pa_cons pe_int (pa_cons pe_int (pa_cons pe_int (pa_cons pe_int (pa_cons pe_int pa_nil)))))))))) pa_nil))) pa_nil)))) (pss_cons (ps_set (i := 5) sc_p_law.nd rfl (Or.inr rfl) (pe_call G_l_stock (hr.mono (by decide)) (by rfl) m_l_stock k_l_stock b_l_stock .nil pass0 (pa_cons (pv 1) (pa_cons (pv 3) (pa_cons (pv 4) pa_nil))))) (pss_cons (ps_for PassesOwn.never rfl (pi_range1 (by rfl) Z.range_ (pa_cons (pe_call G_l_pick (hr.mono (by decide)) (by rfl) m_l_pick k_l_pick b_l_pick .nil pass0 (pa_cons (pv 1) (pa_cons (pe_lst (pa_cons pe_int (pa_cons pe_int (pa_cons pe_int (pa_cons pe_int (pa_cons pe_int pa_nil)))))) pa_nil))) pa_nil)) (pg_name (i := 6) sc_p_law.nd rfl (Or.inl rfl)) (pss_one (ps_set (i := 5) sc_p_law.nd rfl (Or.inr rfl) (pe_call G_l_spoilt (hr.mono (by decide)) (by rfl) m_l_spoilt k_l_spoilt b_l_spoilt .nil pass0 (pa_cons (pv 1) (pa_cons (pv 5) (pa_cons (pe_op op_cat (pv 3) (pv 4)) pa_nil))))))) (pss_cons (ps_asg (pe_tup (pa_cons (pe_callTy call_list_of (by rfl) Z.list_ (by decide +kernel) (pa_cons (pv 5) pa_nil)) (pa_cons (pe_call G_l_holdings_due (hr.mono (by decide)) (by rfl) m_l_holdings_due k_l_holdings_due b_l_holdings_due .nil pass0 (pa_cons (pv 5) pa_nil)) (pa_cons (pe_callB (call_reprD (show Calm _ from gA) hr.units) (by rfl) zR (by decide +kernel) (pa_cons (pv 5) pa_nil)) pa_nil)))) (pg_tup (by rfl) (pgs_cons (pg_name (i := 7) sc_p_law.nd rfl (Or.inr rfl)) (pgs_cons (pg_name (i := 8) sc_p_law.nd rfl (Or.inl rfl)) (pgs_cons (pg_name (i := 9) sc_p_law.nd rfl (Or.inl rfl)) pgs_nil))))) (pss_cons (ps_set (i := 10) sc_p_law.nd rfl (Or.inl rfl) (pe_lst (pa_cons (pe_tryT (T := T) F_l_try m_l_try b_l_try (by rfl) sc_l_try rfl (.inl rfl) (fun _ => gives_l_try (hr.mono (by decide)) hm1 hm2 h_l_fields) TB rfl hmT huT (hr.mono (by decide : 13 + 2 ≤ _)) (show LamX.LamS (defScope s_p_law) _ from LamX.lamS_by (by decide +kernel)) rfl (fun _ _ _ _ _ => rfl) (fun A outer s H E f c' hr' => by exact (pe_make MK_c_Table_init G_c_Table_init (hr'.mono (by decide)) (by rfl) BT.m b_c_Table_init dd_c_Table_init (passes_call (takes_of rfl rfl rfl rfl) fun _ _ _ _ h => h) (pa_cons (pv 7) pa_nil)))) (pa_cons (pe_tryT (T := T) F_l_try m_l_try b_l_try (by rfl) sc_l_try rfl (.inl rfl) (fun _ => gives_l_try (hr.mono (by decide)) hm1 hm2 h_l_fields) TB rfl hmT huT (hr.mono (by decide : 13 + 2 ≤ _)) (show LamX.LamS (defScope s_p_law) _ from LamX.lamS_by (by decide +kernel)) rfl (fun _ _ _ _ _ => rfl) (fun A outer s H E f c' hr' => by exact (pe_makeK0 MK_c_Table_init G_c_Table_init (hr'.mono (by decide)) (by rfl) BT.m kn_c_Table_init (passes_call (takes_of rfl rfl rfl rfl) fun _ _ _ _ h => h) (pk_cons (pe_callTy (show CallR _ (.type "tuple") (rTupQ K) from call_tupQ) (by rfl) Z.tuple_ (by decide +kernel) (pa_cons (pv 5) pa_nil)) pk_nil)))) pa_nil)))) (C8.pss_cut (ps_if (PW.pt (pw_or (PW.pt (pw_and (pt_cmpR (op_neD hr.units) (pv 8) (pe_tup pa_nil) (nomark _)) (pw_and1 (pt_not (pt_val (pe_call G_l_same (hr.mono (by decide)) (by rfl) m_l_same k_l_same b_l_same .nil pass0 (pa_cons (pv 10) (pa_cons (pe_lst (pa_cons (pv 8) (pa_cons (pv 8) pa_nil))) pa_nil)))))))) (pw_or (pt_cmpR op_ne (pe_callB (call_reprD (show Calm _ from gA) hr.units) (by rfl) zR (by decide +kernel) (pa_cons (pv 7) pa_nil)) (pv 9) (nomark _)) (pw_or1 (pt_cmpR op_ne (pe_callB (call_reprD (show Calm _ from gA) hr.units) (by rfl) zR (by decide +kernel) (pa_cons (pv 5) pa_nil)) (pv 9) (nomark _)))))) (pss_one (ps_ret pe_bl)) pss_nil) (C8.pss_cut (ps_for PassesOwn.never rfl (pi_list (pv 10)) (pg_name (i := 11) sc_p_law.nd rfl (Or.inl rfl)) (pss_cons (ps_if (PW.pt (pw_and (pt_cmpR (op_eqD hr.units) (pv 8) (pe_tup pa_nil) (nomark _)) (pw_and1 (pt_cmpR op_ne (pe_ix ix_tup (pv 11) pe_int (fun _ _ => rfl)) pe_str (nomark _))))) (pss_one (ps_ret pe_bl)) pss_nil) (pss_one (ps_if (PW.pt (pw_and (pt_cmpR (op_eqD hr.units) (pv 8) (pe_tup pa_nil) (nomark _)) (pw_and1 (pt_not (pt_val (pe_call G_l_same (hr.mono (by decide)) (by rfl) m_l_same k_l_same b_l_same .nil pass0 (pa_cons (pe_call G_l_shown (hr.mono (by decide)) (by rfl) m_l_shown k_l_shown b_l_shown .nil pass0 (pa_cons (pe_ix ix_tup (pv 11) pe_int (fun _ _ => rfl)) pa_nil)) (pa_cons (pe_lc (own := [("_law_row", 12)]) (g := gName 12) (by rfl) sc_p_law.nd (pi_list (pe_callB (show CallR _ (.builtin "sorted") (rSortedR K) from cr_sortedR) (by rfl) Z.sorted_ (by decide +kernel) (pa_cons (pv 5) pa_nil))) (blkOk_by (own := [("_law_row", 12)]) (N := ["_law_script", "_law_state", "_law_turn", "_law_tags", "_law_sorts", "_law_rows", "_law_again", "_law_given", "_law_due", "_law_kept", "_law_got", "_law_one_z", "_law_row", "_law_x"]) (sc := defScope s_p_law) (by decide +kernel)) (fun _ _ _ _ _ => pg_name (i := 12) sc_p_law.nd rfl (Or.inl rfl)) (fun _ _ _ _ _ => pts_nil) (fun _ _ _ _ _ => (pe_tup (pa_cons (pe_ix (show IxR _ (rIxT K) from ix_tup) (pv 12) pe_int (fun _ _ => rfl)) (pa_cons (pe_callB (show CallR _ (.builtin "sorted") (rSortedLT K) from cr_sortedLT) (by rfl) Z.sorted_ (by decide +kernel) (pa_cons (pe_ix (show IxR _ (rIxT K) from ix_tup) (pv 12) pe_int (fun _ _ => rfl)) pa_nil)) pa_nil))))) pa_nil)))))))) (pss_one (ps_ret pe_bl)) pss_nil)))) (pss_cons (ps_set (i := 13) sc_p_law.nd rfl (Or.inr rfl) (pe_call G_l_pick (hr.mono (by decide)) (by rfl) m_l_pick k_l_pick b_l_pick .nil pass0 (pa_cons (pv 1) (pa_cons (pe_lst (pa_cons pe_non (pa_cons pe_int (pa_cons pe_str (pa_cons pe_bl (pa_cons (pe_tup pa_nil) (pa_cons (pe_lst pa_nil) (pa_cons (pe_tup (pa_cons pe_str (pa_cons (pe_lst pa_nil) pa_nil))) (pa_cons (pe_call G_l_odd (hr.mono (by decide)) (by rfl) m_l_odd k_l_odd b_l_odd .nil pass0 (pa_cons (pv 1) pa_nil)) pa_nil))))))))) pa_nil)))) (pss_cons (ps_set (i := 8) sc_p_law.nd rfl (Or.inl rfl) (pe_call G_l_holdings_due (hr.mono (by decide)) (by rfl) m_l_holdings_due k_l_holdings_due b_l_holdings_due .nil pass0 (pa_cons (pv 13) pa_nil))) (pss_cons (ps_set (i := 10) sc_p_law.nd rfl (Or.inl rfl) (pe_tryT (T := T) F_l_try m_l_try b_l_try (by rfl) sc_l_try rfl (.inl rfl) (fun _ => gives_l_try (hr.mono (by decide)) hm1 hm2 h_l_fields) TB rfl hmT huT (hr.mono (by decide : 13 + 2 ≤ _)) (show LamX.LamS (defScope s_p_law) _ from LamX.lamS_by (by decide +kernel)) rfl (fun _ _ _ _ _ => rfl) (fun A outer s H E f c' hr' => by exact (pe_make MK_c_Table_init G_c_Table_init (hr'.mono (by decide)) (by rfl) BT.m b_c_Table_init dd_c_Table_init (passes_call (takes_of rfl rfl rfl rfl) fun _ _ _ _ h => h) (pa_cons (pv 13) pa_nil))))) (pss_one (ps_if (PW.pt (pw_or (PW.pt (pw_and (pt_cmpR (op_neD hr.units) (pv 8) (pe_tup pa_nil) (nomark _)) (pw_and1 (pt_not (pt_val (pe_call G_l_same (hr.mono (by decide)) (by rfl) m_l_same k_l_same b_l_same .nil pass0 (pa_cons (pv 10) (pa_cons (pv 8) pa_nil)))))))) (pw_or1 (PW.pt (pw_and (pt_cmpR (op_eqD hr.units) (pv 8) (pe_tup pa_nil) (nomark _)) (pw_and1 (pt_cmpR op_ne (pe_ix ix_tup (pv 10) pe_int (fun _ _ => rfl)) pe_str (nomark _)))))))) (pss_one (ps_ret pe_bl)) pss_nil)))))))))))))) (pss_one (ps_ret pe_bl)))), ?_⟩
    refine ⟨_, rfl, a, ns, 120330773, rfl, hS, hlen, by decide, by decide, fun H1 D s1 np nl d => ?_⟩
    have gt : GoT D T H1 H1 := GoT.refl d (Tabs.sm tb s1)
    clear d np nl s1 hS hlen tb
    refine ⟨_, rfl, by decide, by decide, for_range (lo := 0) (n := 5) (fun i σ H' => ∃ y2 y3 y4 y5 y6 y7 y8 y9 y10 y11 y12 y13 : Option V, σ = [some (.ref a), some (.ref D.p), y2, y3, y4, y5, y6, y7, y8, y9, y10, y11, y12, y13] ∧ GoT D T H1 H') ⟨_, _, _, _, _, _, _, _, _, _, _, _, rfl, gt⟩ ?_ ?_⟩
    · clear gt
      rintro k σ H2 hk ⟨y2, y3, y4, y5, y6, y7, y8, y9, y10, y11, y12, y13, rfl, g2⟩
      -- tags, sorts
      refine ⟨_, rfl, _, rfl, by show 9 ≤ sizeLine; decide, fun u nu => ?_⟩
      have gu := g2.sm (same_new (o := .lst [.int 1, .int 2, .int 3, .int 4, .int 6, .int 11, .int 12, .int 13, .int 14]) nu)
      have up := g2.d.ne_new nu
      refine ⟨D, u, _, rfl, gu.d, sqh up upd_same, by show 0 < 9; decide, by show 9 ≤ 1000; decide, fun i vn H3 hv gv => ?_⟩
      obtain ⟨m, rfl, m0, m1⟩ : ∃ n : Int, vn = .int n ∧ 1 ≤ n ∧ n ≤ 14 := by
        have hm := List.mem_of_getElem? hv
        simp only [List.mem_cons, List.not_mem_nil, or_false] at hm
        rcases hm with rfl | rfl | rfl | rfl | rfl | rfl | rfl | rfl | rfl <;> exact ⟨_, rfl, by decide, by decide⟩
      have g3 := gu.go gv
      clear gu gv hv up nu
      refine ⟨D, m, rfl, g3.d, by omega, by omega, fun PA xs H4 nx lx nPA ePA g4 => ?_⟩
      have PD := g3.d.ne_new nPA
      have g4 := g3.go g4
      refine ⟨_, rfl, _, rfl, by show 9 ≤ sizeLine; decide, fun u nu => ?_⟩
      have gu := (GoT.refl g4.d g4.t).sm (same_new (o := .lst [.int 0, .int 1, .int 2, .int 3, .int 5, .int 9, .int 10, .int 11, .int 12]) nu)
      have up := (GoT.refl g4.d g4.t).d.ne_new nu
      refine ⟨D, u, _, rfl, gu.d, sqh up upd_same, by show 0 < 9; decide, by show 9 ≤ 1000; decide, fun i vn H5 hv gv => ?_⟩
      obtain ⟨n, rfl, n0, n1⟩ : ∃ n : Int, vn = .int n ∧ 0 ≤ n ∧ n ≤ 12 := by
        have hm := List.mem_of_getElem? hv
        simp only [List.mem_cons, List.not_mem_nil, or_false] at hm
        rcases hm with rfl | rfl | rfl | rfl | rfl | rfl | rfl | rfl | rfl <;> exact ⟨_, rfl, by decide, by decide⟩
      have g5 := gu.go gv
      clear gu gv hv up nu
      refine ⟨D, n, rfl, g5.d, by omega, by omega, fun SA ss H6 nss lss nSA eSA g6 => ?_⟩
      have SD := g5.d.ne_new nSA
      have g6' := g5.go g6
      have ePA6 := g6'.old PD ePA (plain_lst _)
      have g6 := g4.trans g6'
      clear g6' g5 g4 g3 g2 ePA
      -- rows
      refine ⟨_, rfl, _, rfl, _, rfl, D, PA, SA, xs, ss, rfl, g6.d, PD, ePA6, SD, eSA, by omega, by omega, nss.1, by omega, fun R0 us0 hs H8 ok0 g8 nR0 eR0 sh0 => ?_⟩
      have RD0 := g6.d.ne_new nR0
      have g7 := (GoT.refl g6.d g6.t).go g8
      have ePA8 := g7.old PD ePA6 (plain_lst _)
      have eSA8 := g7.old SD eSA (plain_lst _)
      have g8 := g6.trans g7
      have al0 : DaAll K (hid D.p H8) us0 (hs.map rowT) := (sh0.hid g8.d).da
      have bn0 : Bn2 K D H8 H8 R0 us0 (hs.map rowT) 14 := ⟨Go.refl g8.d, RD0, eR0, al0, fun e he => by
        obtain ⟨p, hp, rfl⟩ := List.mem_map.mp he
        exact stock_ok nx nss (by omega) ok0 hp, by rw [List.length_map]; have := congrArg List.length ok0.nm; rw [List.length_map] at this; omega⟩
      clear g7 al0 sh0 eR0 nR0 g6 eSA ePA6
      -- spoilt now and then
      refine ⟨_, rfl, by show 5 ≤ sizeLine; decide, fun u nu => ?_⟩
      have gu := (GoT.refl g8.d g8.t).sm (same_new (o := .lst [.int 0, .int 0, .int 1, .int 2, .int 3]) nu)
      have gub := Go.of g8.d (same_new (o := .lst [.int 0, .int 0, .int 1, .int 2, .int 3]) nu)
      have up := g8.d.ne_new nu
      refine ⟨D, u, _, rfl, gu.d, sqh up upd_same, by show 0 < 5; decide, by show 5 ≤ 1000; decide, fun i vn H9 hv gv => ?_⟩
      obtain ⟨n2, rfl, n20, n23⟩ : ∃ n : Int, vn = .int n ∧ 0 ≤ n ∧ n ≤ 3 := by
        have hm := List.mem_of_getElem? hv
        simp only [List.mem_cons, List.not_mem_nil, or_false] at hm
        rcases hm with rfl | rfl | rfl | rfl | rfl <;> exact ⟨_, rfl, by decide, by decide⟩
      have g9 := gu.go gv
      have bn9 := (bn0.to gub).to gv
      clear gu gub gv hv up nu bn0
      refine ⟨n2, rfl, by omega, by omega, for_range (lo := 0) (n := n2.toNat) (fun i σ H' => ∃ (R : Addr) (us : List V) (ds news : List PyData) (y6 : Option V), σ = [some (.ref a), some (.ref D.p), some (.int (0 + (k : Int))), some (.ref PA), some (.ref SA), some (.ref R), y6, y7, y8, y9, y10, y11, y12, y13] ∧ GoT D T H8 H' ∧ Bn2 K D H' H' R us ds (14 + i) ∧ news.length ≤ i ∧ (∀ e ∈ news, (rowK e).length ≤ 6) ∧ ∀ e ∈ ds, e ∈ hs.map rowT ∨ e ∈ news) ⟨R0, us0, hs.map rowT, [], _, rfl, g9, ⟨Go.refl g9.d, bn9.rp, bn9.er, bn9.da, bn9.lv, bn9.len⟩, Nat.zero_le _, fun e he => (List.not_mem_nil he).elim, fun e he => .inl he⟩ ?_ ?_⟩
      · clear bn9 g9
        rintro j σ H10 hj ⟨R, us, ds, news, y6', rfl, g10, bn, ln, lk, hin⟩
        refine ⟨_, rfl, _, rfl, _, rfl, _, rfl, PA, SA, _, _, rfl, rfl, g10.old PD ePA8 (plain_lst _), g10.old SD eSA8 (plain_lst _), sline (by rw [List.length_map, List.length_map]; omega), fun P nP => ?_⟩
        have gn := Go.of g10.d (same_new (o := .lst (xs.map V.str ++ ss.map V.str)) nP)
        have bn2 := bn.to gn
        have pP := g10.d.ne_new nP
        refine ⟨D, R, P, us, ds, xs ++ ss, 14 + j, rfl, ⟨Go.refl gn.st, bn2.rp, bn2.er, bn2.da, bn2.lv, bn2.len⟩, by omega, by rw [upd_same, List.map_append], pP, fun x hx => ?_, by rw [List.length_append]; omega, by rw [List.length_append]; omega, fun r us' es dn H11 bn' rk6 sub => ?_⟩
        · rcases List.mem_append.mp hx with hx | hx
          · exact nx.2 x hx
          · exact nss.2 x hx
        refine ⟨r, us', es, news ++ [dn], _, rfl, (g10.go gn).go bn'.g, ⟨Go.refl bn'.g.st, bn'.rp, bn'.er, bn'.da, bn'.lv, bn'.len⟩, by rw [List.length_append]; show news.length + 1 ≤ j + 1; omega, all_snoc lk rk6, fun e he => ?_⟩
        rcases sub e he with h | h
        · exact (hin e h).imp id fun h => List.mem_append_left _ h
        · exact .inr (List.mem_append_right _ (by rw [h]; exact List.mem_cons_self))
      clear bn9 g9
      rintro σ H10 ⟨R, us, ds, news, y6', rfl, g10, bn, ln, lk, hin⟩
      have RD := bn.rp
      have eR := bn.er
      have al := bn.da
      have lds : ds.length ≤ 17 := by have := bn.len; omega
      have lus := al.len
      have lv5 : ∀ ds', itemsF (.list ds) = some ds' → ∀ e ∈ ds', Lv 5 e := fun ds' h e he => by cases h; exact (bn.lv e he).lv
      have h64 : (allK (ds.map rowP)).length < 64 := spoilt_kinds ok0 (by omega) (by omega) lk hin
      have tld : Told 20 sizeLine (.list ds) := (Told.list fun e he => (bn.lv e he).td).mono (by decide) (by
        have z : 2 + 17 * 2002 ≤ sizeLine := by decide
        have := Nat.mul_le_mul_right 2002 lds
        show 2 + ds.length * 2002 ≤ sizeLine
        omega)
      clear bn ln lk hin ok0 eSA8 ePA8 n20 n23 lss lx nss nx
      -- given, due, kept
      refine ⟨_, rfl, R, us, rfl, .inl (.inl (.inl eR)), fun G nG => ?_⟩
      have gn := Go.of g10.d (same_new (o := .lst us) nG)
      have GD := g10.d.ne_new nG
      have eR := gn.old RD eR
      have al := al.to gn.sm
      have eG := upd_same (H := H10) (a := G) (o := .lst us)
      have g11 := (g8.trans g10).go gn
      generalize upd H10 G (.lst us) = H11 at gn eR al eG g11 ⊢
      clear gn nG g10 g8
      refine ⟨_, rfl, .ref R, .list ds, rfl, Da.newL eR (al.to hid_same), lv5, fun du H12 s12 rdu => ?_⟩
      have g12 := g11.sm s12
      have k12 := KeepD.of s12
      have eR := s12 _ _ eR
      have eG := s12 _ _ eG
      have al : DaAll K (hid D.p H12) us ds := al.to (Go.of g11.d s12).sm
      clear k12 g11
      refine ⟨_, rfl, R, .list ds, rfl, (Da.newL eR (al.to hid_same)).dp, tld, ?_⟩
      refine ⟨by show 3 ≤ sizeLine; decide, fun tt ntt => ⟨tt, _, rfl, .inl (.inl upd_same), rfl, _, _, rfl, _, _, rfl, _, _, rfl, rfl, ?_⟩⟩
      have sN := same_new (o := .tup [.ref G, du, .str (PyData.list ds).shown]) ntt
      have g13 := g12.sm sN
      have eR := sN _ _ eR
      have eG := sN _ _ eG
      have al := al.to (Go.of g12.d sN).sm
      have rdu := rdu.to sN
      generalize upd H12 tt (.tup [.ref G, du, .str (PyData.list ds).shown]) = H13 at sN g13 eR eG al rdu ⊢
      clear sN ntt g12
      -- two tries
      refine ⟨g13.t, fun H14 e14 tb14 => ?_⟩
      have g14 := (GoT.refl g13.d g13.t).ext e14 tb14
      have k14 := keepD_ext e14
      refine try_tab (K := K) (C := CT) (d := .list ds) (fun E0' Q0 h1 h2 => ?_) fun ga H15 s15 oka => ?_
      · exact ⟨_, rfl, mk_table (Da.newL (g14.old GD eG (plain_lst _)) ((g14.daAll al).to hid_same)) lv5 (fun ds' h _ => by cases h; exact h64) h1 h2⟩
      have g15 := g14.sm s15
      refine ⟨g15.t, fun H16 e16 tb16 => ?_⟩
      have g16 := g15.ext e16 tb16
      have k16 := keepD_ext e16
      have lvt : ∀ ds', itemsF (.tuple ds) = some ds' → ∀ e ∈ ds', Lv 5 e := fun ds' h e he => lv5 ds' h e he
      refine try_tab (K := K) (C := CT) (d := .tuple ds) (fun E0' Q0 h1 h2 => ?_) fun gb H17 s17 okb => ?_
      · refine ⟨_, rfl, R, us, rfl, .inl ⟨.inl (.inl (g16.old RD eR (plain_lst _))), fun W nW => ?_⟩⟩
        have sW := same_new (o := .tup us) nW
        exact ⟨rfl, rfl, mk_table (d := .tuple ds) (Da.newT upd_same (((g16.daAll al).to hid_same).to sW)) lvt (fun ds' h _ => by cases h; exact h64) (fun hn b' ds' hs' H' s' => h1 hn b' ds' hs' H' (sW.trans s')) (fun c val hc cls dd v' H' s' => h2 c val hc cls dd v' H' (sW.trans s'))⟩
      have okb : TolT K CT (.list ds) H17 gb := okb
      have g17 := g16.sm s17
      refine ⟨by show 2 ≤ sizeLine; decide, fun GT nGT => ?_⟩
      have sN := same_new (o := .lst [ga, gb]) nGT
      have eGT := upd_same (H := H17) (a := GT) (o := .lst [ga, gb])
      have g18 := g17.sm sN
      have kb := KeepD.of sN
      have ka := (k16.trans (KeepD.of s17)).trans kb
      have rdu := ((rdu.kd k14).to s15).kd ka
      have oka := oka.kd ka
      have okb := okb.kd kb
      have eR := g18.old RD eR (plain_lst _)
      have eG := g18.old GD eG (plain_lst _)
      have alh := g18.daAll al
      have al : DaAll K _ us ds := alh.to hid_same
      have g18' := g13.trans g18
      generalize upd H17 GT (.lst [ga, gb]) = H18 at sN eGT g18 kb ka rdu oka okb eR eG alh al g18' ⊢
      clear sN g17 g16 g15 g14 k14 k16 kb ka g13 s15 s17 e14 e16 tb14 tb16 g18
      have l0 : Lv 1 (.tuple []) := ⟨Nat.zero_le _, fun e he => (List.not_mem_nil he).elim⟩
      refine ⟨fun σ H' => σ = [some (.ref a), some (.ref D.p), some (.int (0 + (k : Int))), some (.ref PA), some (.ref SA), some (.ref R), y6', some (.ref G), some du, some (.str (PyData.list ds).shown), some (.ref GT), y11, y12, y13] ∧ Same H18 H', ?_, ?_⟩
      · refine ⟨_, rfl, Nat.zero_le _, fun T0 nT => ?_⟩
        have sT := same_new (o := .tup []) nT
        refine ⟨dueU (tbDue (.list ds)), .tuple [], (rdu.to sT).dp, (Da.newT upd_same .nil).dp, (tb_lv _).shaped (by decide), l0.shaped (by decide), _, rfl, ?_⟩
        rw [due_eqv]
        cases hb : tbDue (.list ds) with
        | some cv =>
          refine iteT ?_
          have oka2 : Da K H18 ga (dueU (some cv)) := by unfold TolT at oka; rw [hb] at oka; exact oka
          have okb2 : Da K H18 gb (dueU (some cv)) := by unfold TolT at okb; rw [hb] at okb; exact okb
          have lcv := tb_lv (.list ds)
          rw [hb] at lcv rdu
          refine ⟨_, rfl, _, rfl, _, rfl, by show 2 ≤ sizeLine; decide, fun W nW => ?_⟩
          have sW := sT.trans (same_new (o := .lst [du, du]) nW)
          refine ⟨.ref GT, .ref W, .list [dueU (some cv), dueU (some cv)], rfl, Da.newL (sW _ _ eGT) (.cons (oka2.to sW) (.cons (okb2.to sW) .nil)), Da.newL upd_same (.cons (rdu.to sW) (.cons (rdu.to sW) .nil)), (show Lv 7 _ from ⟨by show 2 ≤ 60; decide, all_two lcv.up lcv.up⟩), fun H19 s19 => ⟨_, rfl, ?_⟩⟩
          have st := sW.trans s19
          refine ⟨_, rfl, G, .list ds, rfl, (Da.newL (st _ _ eG) (al.to st)).dp, tld, _, rfl, rfl, ?_⟩
          rw [decide_eq_true rfl]
          refine ⟨_, rfl, ?_⟩
          refine ⟨_, rfl, R, .list ds, rfl, (Da.newL (st _ _ eR) (al.to st)).dp, tld, _, rfl, rfl, ?_⟩
          rw [decide_eq_true rfl]
          refine ⟨_, rfl, ?_⟩
          exact ⟨rfl, st⟩
        | none =>
          refine iteF ?_
          have st := sT
          refine ⟨_, rfl, G, .list ds, rfl, (Da.newL (st _ _ eG) (al.to st)).dp, tld, _, rfl, rfl, ?_⟩
          rw [decide_eq_true rfl]
          refine ⟨_, rfl, ?_⟩
          refine ⟨_, rfl, R, .list ds, rfl, (Da.newL (st _ _ eR) (al.to st)).dp, tld, _, rfl, rfl, ?_⟩
          rw [decide_eq_true rfl]
          refine ⟨_, rfl, ?_⟩
          exact ⟨rfl, st⟩
      rintro σ H19 ⟨rfl, s19⟩
      refine ⟨fun σ H' => ∃ y11' : Option V, σ = [some (.ref a), some (.ref D.p), some (.int (0 + (k : Int))), some (.ref PA), some (.ref SA), some (.ref R), y6', some (.ref G), some du, some (.str (PyData.list ds).shown), some (.ref GT), y11', y12, y13] ∧ Same H18 H', ?_, ?_⟩
      · refine ⟨_, rfl, GT, rfl, ⟨_, .inl (.inl (s19 _ _ eGT))⟩, for_list (a := GT) (xs := [ga, gb]) (fun i σ H' => ∃ y11' : Option V, σ = [some (.ref a), some (.ref D.p), some (.int (0 + (k : Int))), some (.ref PA), some (.ref SA), some (.ref R), y6', some (.ref G), some du, some (.str (PyData.list ds).shown), some (.ref GT), y11', y12, y13] ∧ Same H18 H') ⟨_, rfl, s19⟩ (fun i σ H' _ z => by obtain ⟨_, _, s⟩ := z; exact .inl (.inl (s _ _ eGT))) ?_ ?_⟩
        · rintro i g0 σ H20 hi ⟨y11', rfl, s20⟩
          have ok0 : TolT K CT (.list ds) H18 g0 := by
            rcases List.mem_cons.mp (List.mem_of_getElem? hi) with e | hm
            · rw [e]; exact oka
            · rw [List.mem_singleton.mp hm]; exact okb
          have ok := ok0.to s20
          clear ok0 hi
          have rdu20 := rdu.to s20
          have ldu := tb_lv (.list ds)
          refine ⟨_, rfl, Nat.zero_le _, fun T0 nT => ?_⟩
          have sT := same_new (o := .tup []) nT
          refine ⟨dueU (tbDue (.list ds)), .tuple [], (rdu20.to sT).dp, (Da.newT upd_same .nil).dp, ldu.shaped (by decide), l0.shaped (by decide), _, rfl, ?_⟩
          rw [due_eqv]
          have ok := ok.to sT
          have s21 := s20.trans sT
          have rdu21 := rdu20.to sT
          generalize upd H20 T0 (.tup []) = H21 at sT ok s21 rdu21 ⊢
          clear sT nT rdu20 s20
          cases hb : tbDue (.list ds) with
          | some cv =>
            refine iteF ?_
            rw [hb] at rdu21 ldu
            refine ⟨_, rfl, Nat.zero_le _, fun T1 nT1 => ?_⟩
            have sT := same_new (o := .tup []) nT1
            refine ⟨dueU (some cv), .tuple [], (rdu21.to sT).dp, (Da.newT upd_same .nil).dp, ldu.shaped (by decide), l0.shaped (by decide), _, rfl, ?_⟩
            rw [due_eqv]
            refine iteF ?_
            exact ⟨_, rfl, s21.trans sT⟩
          | none =>
            refine iteT ?_
            unfold TolT at ok
            rw [hb] at ok rdu21 ldu
            obtain ⟨p, b, ds', hs', rfl, sq, hi', ho, tw⟩ := ok
            cases hi'
            refine ⟨_, rfl, p, _, 0, _, rfl, rfl, sq, atI_of (by decide) rfl, rfl, ?_⟩
            rw [decide_eq_true rfl]
            refine ⟨_, rfl, ?_⟩
            refine ⟨_, rfl, Nat.zero_le _, fun T1 nT1 => ?_⟩
            have sT := same_new (o := .tup []) nT1
            refine ⟨dueU none, .tuple [], (rdu21.to sT).dp, (Da.newT upd_same .nil).dp, ldu.shaped (by decide), l0.shaped (by decide), _, rfl, ?_⟩
            rw [due_eqv]
            refine iteT ?_
            have sq := same_t sT sq
            have tw := tw.to sT
            have s22 := s21.trans sT
            generalize upd H21 T1 (.tup []) = H22 at sT sq tw s22 ⊢
            clear sT nT1 rdu21 s21
            obtain ⟨ds2, hi2, l02, l12, hrow, ndm, k10⟩ := tb_ok hb
            cases hi2
            have ft := ho.fit l12 hrow ndm k10
            refine ⟨_, rfl, p, _, 1, .ref b, rfl, rfl, sq, atI_of (by decide) rfl, b, hs', rfl, tw, ft, fun L H23 s23 rL => ?_⟩
            have s03 := s22.trans s23
            have al3 := al.to s03
            refine ⟨_, rfl, R, us, ds.map markOf, rfl, .inl (.inl (s03 _ _ eR)), by rw [List.length_map, lus], ndm, fun i x m hx hm => ?_, fun prs p0 pm so np => ⟨p0, rfl, ⟨_, .inl (.inl upd_same)⟩, fun L2 nL2 => ?_⟩⟩
            · obtain ⟨e, he, re⟩ := al3.at hx
              obtain ⟨p2, b2, m', ks, rfl, sq2, hb2, nm, nk, em, ek⟩ := re.row (hrow e (List.mem_of_getElem? he))
              rw [List.getElem?_map, he] at hm
              have hm : markOf e = m := Option.some.inj hm
              subst em
              exact ⟨p2, _, rfl, by rw [← hm]; exact sq2⟩
            obtain ⟨lpr, hmat⟩ := rows_match ho ndm lus pm so
            have s4 := same_new (o := .lst (prs.map (·.1))) np
            have ep : (upd H23 p0 (.lst (prs.map (·.1)))) p0 = some (.lst (prs.map (·.1))) := upd_same
            have s04 := s03.trans s4
            have al4 := al3.to s4
            have rL4 := rL.to s4
            generalize upd H23 p0 (.lst (prs.map (·.1))) = H24 at s4 ep s04 al4 rL4 nL2 ⊢
            clear al3 rL s4 np s03 s23 s22 tw sq
            have few := ft.few
            refine lc_list (K := K) (a := p0) (xs := prs.map (·.1)) (fun i H2 => Same H24 H2 ∧ ∃ ws, H2 L2 = some (.lst ws) ∧ DaAll K (frH (upd H24 L2 (.lst [])) H2) ws ((hs'.take i).map rowT)) ⟨same_new nL2, [], upd_same, .nil⟩ (fun i H2 _ z => .inl (.inl (z.1 _ _ ep))) ?_ ?_
            · rintro i x H25 hi3 ⟨s5, ws, e5, alw⟩
              obtain ⟨q0, hq0⟩ : ∃ q, hs'[i]? = some q := ⟨_, List.getElem?_eq_getElem (by have := lt_of_get hi3; rw [List.length_map] at this; omega)⟩
              obtain ⟨x', j, e, hx', huj, hdj, em, pq, sq0⟩ := hmat i q0 hq0
              rw [hi3] at hx'
              cases hx'
              obtain ⟨e', he', re⟩ := (al4.to s5).at huj
              rw [hdj] at he'
              cases he'
              obtain ⟨p2, b2, m', ks, rfl, sq2, hb2, nm, nk, em', ek⟩ := re.row (hrow e (List.mem_of_getElem? hdj))
              have ks10 := ft.short q0 (List.mem_of_getElem? hq0)
              rw [ek] at pq
              have lw := alw.len
              have fr : ∀ c, H25 c = none → (upd H24 L2 (.lst [])) c = none := fun c z => by
                by_cases w : c = L2
                · rw [w, e5] at z; cases z
                · rw [upd_ne w]; exact s5.free z
              refine ⟨rfl, _, rfl, p2, _, 0, _, rfl, rfl, sq2, atI_of (by decide) rfl, _, rfl, p2, _, 1, _, rfl, rfl, sq2, atI_of (by decide) rfl, b2, ks, rfl, hb2, by rw [← pq.length_eq]; omega, fun ys r2 pys sys nr2 => ?_⟩
              have ey : ys = q0.2 := sorted_one (pys.trans pq.symm) (sorted_pair sys) (sorted_pair sq0)
              subst ey
              have s6 := same_new (o := .lst (q0.2.map V.str)) nr2
              refine ⟨by show 2 ≤ sizeLine; decide, fun T2 nT2 => ?_⟩
              have s7 := same_new (o := .tup [.str m', .ref r2]) nT2
              have eL := s7 _ _ (s6 _ _ e5)
              have li := lt_of_get hq0
              refine ⟨_, eL, slineL (by rw [lw, List.length_map, List.length_take]; omega), same_mut ((s5.trans s6).trans s7) nL2, _, upd_same, ?_⟩
              have hL : (upd H24 L2 (.lst [])) L2 ≠ none := by rw [upd_same]; exact fun z => nomatch z
              rw [frH_upd hL, take_succ_map hq0]
              have nr3 := fr _ nr2
              have nT3 := fr _ (s6.free nT2)
              have hr2 : frH (upd H24 L2 (.lst [])) (upd (upd H25 r2 (.lst (q0.2.map V.str))) T2 (.tup [.str m', .ref r2])) r2 = some (.lst (q0.2.map V.str)) := by rw [frH_new nr3]; exact s7 _ _ upd_same
              have hT2 : frH (upd H24 L2 (.lst [])) (upd (upd H25 r2 (.lst (q0.2.map V.str))) T2 (.tup [.str m', .ref r2])) T2 = some (.tup [.str m', .ref r2]) := by rw [frH_new nT3]; exact upd_same
              have er : rowT q0 = .tuple [.str m', .list (q0.2.map .str)] := by
                rw [show m' = q0.1 from em'.symm.trans em]; rfl
              rw [er]
              exact (alw.to (frH_sm (s6.trans s7))).app (.cons (Da.newT hT2 (.cons (.str _) (.cons (Da.newL hr2 (DaAll.strs _)) .nil))) .nil)
            rintro H25 ⟨s5, ws, e5, alw⟩
            rw [List.length_map, lpr, List.take_length] at alw
            refine ⟨.ref L, .ref L2, .list (hs'.map rowT), rfl, rL4.to s5, Da.newL e5 (alw.to fun a o h => (frH_some h).2), (show Lv 7 _ from ⟨by rw [List.length_map]; omega, fun z hz => ?_⟩), fun H26 s26 => ⟨_, rfl, ?_⟩⟩
            · obtain ⟨q0, hq0, rfl⟩ := List.mem_map.mp hz
              refine ⟨by show 2 ≤ 60; decide, all_two (lv_nm (ft.nm q0 hq0)) ⟨by rw [List.length_map]; have := ft.short q0 hq0; omega, fun y hy => ?_⟩⟩
              obtain ⟨y', hy', rfl⟩ := List.mem_map.mp hy
              exact lv_nm ((ft.ks q0 hq0).2 y' hy')
            exact ⟨_, rfl, (s04.trans s5).trans s26⟩
        · rintro σ H20 ⟨y11', rfl, s20⟩
          exact ⟨_, rfl, s20⟩
      rintro σ H20 ⟨y11', rfl, s20⟩
      have g20 := g18'.sm s20
      clear oka okb rdu eGT eR eG alh al g18' s19 h64 tld lv5 lvt lds lus
      -- an odd value
      refine ⟨_, rfl, Nat.zero_le _, fun E1 nE1 => ⟨Nat.zero_le _, fun E2 nE2 => ⟨Nat.zero_le _, fun E3 nE3 => ⟨by show 2 ≤ sizeLine; decide, fun E4 nE4 => ?_⟩⟩⟩⟩
      have s1 := same_new (o := .tup []) nE1
      have s2 := same_new (o := .lst []) nE2
      have s3 := same_new (o := .lst []) nE3
      have s4 := same_new (o := .tup [.str "a", .ref E3]) nE4
      have p1 := g20.d.ne_new nE1
      have p2 := (g20.sm s1).d.ne_new nE2
      have p3 := ((g20.sm s1).sm s2).d.ne_new nE3
      have p4 := (((g20.sm s1).sm s2).sm s3).d.ne_new nE4
      have e1 := s4 _ _ (s3 _ _ (s2 _ _ (upd_same (H := H20) (a := E1) (o := .tup []))))
      have e2 := s4 _ _ (s3 _ _ (upd_same (H := upd H20 E1 (.tup [])) (a := E2) (o := .lst [])))
      have e3 := s4 _ _ (upd_same (H := upd (upd H20 E1 (.tup [])) E2 (.lst [])) (a := E3) (o := .lst []))
      have e4 := upd_same (H := upd (upd (upd H20 E1 (.tup [])) E2 (.lst [])) E3 (.lst [])) (a := E4) (o := .tup [.str "a", .ref E3])
      have g21 := (((g20.sm s1).sm s2).sm s3).sm s4
      generalize upd (upd (upd (upd H20 E1 (.tup [])) E2 (.lst [])) E3 (.lst [])) E4 (.tup [.str "a", .ref E3]) = H21 at s4 e1 e2 e3 e4 g21 ⊢
      clear s4 s3 s2 s1 nE1 nE2 nE3 nE4 g20 s20
      refine ⟨_, rfl, D, rfl, g21.d, fun w5 d5 H22 hd5 g22 r5 => ⟨by show 8 ≤ sizeLine; decide, fun PL nPL => ?_⟩⟩
      have gp := Go.of g22.st (same_new (o := .lst [.non, .int 5, .str "ab", .bl true, .ref E1, .ref E2, .ref E4, w5]) nPL)
      have pPL := g22.st.ne_new nPL
      have gq := g22.trans gp
      have r3 : Da K (hid D.p H21) (.ref E3) (.list []) := Da.newL (by rw [hid_ne p3]; exact e3) .nil
      have items : DaAll K (hid D.p (upd H22 PL (.lst [.non, .int 5, .str "ab", .bl true, .ref E1, .ref E2, .ref E4, w5]))) [.non, .int 5, .str "ab", .bl true, .ref E1, .ref E2, .ref E4, w5] [.none, .int 5, .str "ab", .bool true, .tuple [], .list [], .tuple [.str "a", .list []], d5] :=
        .cons .non (.cons (.int _) (.cons (.str _) (.cons (.bl _) (.cons ((Da.newT (K := K) (xs := []) (ds := []) (by rw [hid_ne p1]; exact e1) .nil).to gq.sm) (.cons ((Da.newL (K := K) (xs := []) (ds := []) (by rw [hid_ne p2]; exact e2) .nil).to gq.sm) (.cons ((Da.newT (K := K) (xs := [.str "a", .ref E3]) (ds := [.str "a", .list []]) (by rw [hid_ne p4]; exact e4) (.cons (.str _) (.cons r3 .nil))).to gq.sm) (.cons (r5.to gp.sm) .nil)))))))
      refine ⟨D, PL, _, rfl, gp.st, sqh pPL upd_same, by show 0 < 8; decide, by show 8 ≤ 1000; decide, fun ib vx H23 hvx g23 => ?_⟩
      obtain ⟨dx, hdx, rx⟩ := items.at hvx
      have rx := rx.to g23.sm
      have okx : Lv 4 dx ∧ ∀ ds, itemsF dx = some ds → (allK (ds.map rowP)).length < 64 := by
        have hm := List.mem_of_getElem? hdx
        simp only [List.mem_cons, List.not_mem_nil, or_false] at hm
        rcases hm with rfl | rfl | rfl | rfl | rfl | rfl | rfl | rfl
        · exact ⟨trivial, fun ds h => by cases h⟩
        · exact ⟨trivial, fun ds h => by cases h⟩
        · exact ⟨lv_of 4 _ (by decide +kernel), fun ds h => by cases h⟩
        · exact ⟨trivial, fun ds h => by cases h⟩
        · exact ⟨lv_of 4 _ (by decide +kernel), fun ds h => by cases h; decide +kernel⟩
        · exact ⟨lv_of 4 _ (by decide +kernel), fun ds h => by cases h; decide +kernel⟩
        · exact ⟨lv_of 4 _ (by decide +kernel), fun ds h => by cases h; decide +kernel⟩
        · exact ⟨(odds_lv dx hd5).up.up, odds_allK dx hd5⟩
      have g24 := g21.go (gq.trans g23)
      clear items hvx hdx g23 gq gp pPL nPL r5 g22 r3 g21 e1 e2 e3 e4 p1 p2 p3 p4
      have lx5 : ∀ ds', itemsF dx = some ds' → ∀ e ∈ ds', Lv 5 e := fun ds' h e he => by
        cases dx with
        | list _ => cases h; exact (okx.1.2 e he).up.up
        | tuple _ => cases h; exact (okx.1.2 e he).up.up
        | _ => cases h
      refine ⟨_, rfl, vx, dx, rfl, rx.to hid_same, lx5, fun du2 H25 s25 rdu => ?_⟩
      have g25 := g24.sm s25
      have rx := rx.to (Go.of g24.d s25).sm
      clear g24 s25
      refine ⟨g25.t, fun H26 e26 tb26 => ?_⟩
      have g26 := (GoT.refl g25.d g25.t).ext e26 tb26
      have k26 := keepD_ext e26
      refine try_tab (K := K) (C := CT) (d := dx) (fun E0' Q0 h1 h2 => ?_) fun gc H27 s27 okc => ?_
      · exact ⟨_, rfl, mk_table ((g26.da rx).to hid_same) lx5 (fun ds' h _ => okx.2 ds' h) h1 h2⟩
      have g27 := (g25.trans g26).sm s27
      have rdu := (rdu.kd k26).to s27
      clear g26 k26 e26 tb26 g25 rx lx5 s27
      have ldu := tb_lv dx
      refine ⟨_, rfl, Nat.zero_le _, fun T0 nT => ?_⟩
      have sT := same_new (o := .tup []) nT
      refine ⟨dueU (tbDue dx), .tuple [], (rdu.to sT).dp, (Da.newT upd_same .nil).dp, ldu.shaped (by decide), l0.shaped (by decide), _, rfl, ?_⟩
      rw [due_eqv]
      have okc := okc.to sT
      have rdu := rdu.to sT
      have g28 := g27.sm sT
      generalize upd H27 T0 (.tup []) = H28 at sT okc rdu g28 ⊢
      clear sT nT g27
      unfold TolT at okc
      cases hb : tbDue dx with
      | some cv =>
        rw [hb] at okc rdu ldu
        refine iteT ?_
        refine ⟨_, rfl, _, rfl, gc, du2, dueU (some cv), rfl, okc, rdu, (show Lv 7 _ from ldu.up.up), fun H29 s29 => ⟨_, rfl, ?_⟩⟩
        refine ⟨_, rfl, Nat.zero_le _, fun T1 nT1 => ?_⟩
        have sT := same_new (o := .tup []) nT1
        refine ⟨dueU (some cv), .tuple [], ((rdu.to s29).to sT).dp, (Da.newT upd_same .nil).dp, ldu.shaped (by decide), l0.shaped (by decide), _, rfl, ?_⟩
        rw [due_eqv]
        refine iteF ?_
        exact ⟨_, _, _, _, _, _, _, _, _, _, _, _, rfl, (g28.sm s29).sm sT⟩
      | none =>
        rw [hb] at okc rdu ldu
        refine iteF ?_
        refine ⟨_, rfl, Nat.zero_le _, fun T1 nT1 => ?_⟩
        have sT := same_new (o := .tup []) nT1
        refine ⟨dueU none, .tuple [], (rdu.to sT).dp, (Da.newT upd_same .nil).dp, ldu.shaped (by decide), l0.shaped (by decide), _, rfl, ?_⟩
        rw [due_eqv]
        refine iteT ?_
        obtain ⟨p, b, ds', hs', rfl, sq, _⟩ := okc
        refine ⟨_, rfl, p, _, 0, _, rfl, rfl, same_t sT sq, atI_of (by decide) rfl, rfl, ?_⟩
        rw [decide_eq_true rfl]
        refine ⟨_, rfl, ?_⟩
        exact ⟨_, _, _, _, _, _, _, _, _, _, _, _, rfl, g28.sm sT⟩
    · rintro σ H9 ⟨y2, y3, y4, y5, y6, y7, y8, y9, y10, y11, y12, y13, rfl, g9⟩
      exact q H9
end
end Th
namespace Th
open PySem PySem.Spec PyProof.Rows L2
theorem at_mk {K : PySem.W.Frag} {h : Heap} {mg : Str → Option Value} {x : Str} {st : Stmt} {ps : List Str} {f : Addr} {oc : Value} {od an : Option Addr} {osl : Array (Option Value)} {kV doc pm cdv ct : Value} (X : K.In h) (G : h.Ns mainGlobals mg)
    (a : PySem.W.nsIn K mainGlobals x = some (some (.ref f))) (l : K.lookup f = some ⟨oc, od, .func (PySem.W.fnOf x x (defArgs st) (defBody st) (defScope st) .none kV doc pm an cdv ct), osl⟩) (c : PySem.W.codeIn K cdv x = true) (k : PySem.W.keepIn K (.ref f) = true)
    (hb : ∀ (kV doc pm : Value) (an : Option Addr) (cdv ct : Value) (us : List Value), us.length = ps.length → bindArgs (PySem.W.fnOf x x (defArgs st) (defBody st) (defScope st) .none kV doc pm an cdv ct) ⟨us, []⟩ = pure (ps.zip us)) : At K mg x st ps :=
  ⟨f, _, fun_mk (st := st) l c k, PySem.W.mg_of X G a, (fun_mk (st := st) l c k).binds (ps := ps) hb⟩
theorem has_fn {P : Program} {w : World} {K : PySem.W.Frag} {mg : Str → Option Value} {base : Heap} {x : Str} {st : Stmt} {k : Nat} {ps : List Str} {sp : Sp} {f : Addr} {oc : Value} {od : Option Addr} {fd : FuncData} {osl : Array (Option Value)}
    (h : Has P w K mg base x st k ps sp) (m : mg x = some (.ref f)) (l : K.lookup f = some ⟨oc, od, .func fd, osl⟩) : FnOk P w K mg base CX0 k f fd ps sp := by
  obtain ⟨f', fd', G, m', _, _, F⟩ := h
  rw [m] at m'
  cases m'
  obtain ⟨oc', od', kV, doc, pm, an, cdv, ct, osl', rfl, lk, _⟩ := F.ex
  rw [l] at lk
  cases lk
  exact G
theorem all_mk {l : PySem.W.OpenLaw} {w : World} {K : PySem.W.Frag} {h : Heap} {mg : Str → Option Value} {fa : Addr} (X : K.In h) (G : h.Ns mainGlobals mg) {TSS : List Addr} (own : ∀ P ∈ TSS, h.get? P = some { cls := .none, data := .fields #[] })
    {f0 : Addr} {od0 an0 : Option Addr} {sl0 : Array (Option Value)} {oc0 kV0 dc0 pm0 ct0 : Value} {cd0 : Value}
    {f1 : Addr} {od1 an1 : Option Addr} {sl1 : Array (Option Value)} {oc1 kV1 dc1 pm1 ct1 : Value} {cd1 : Value}
    {f2 : Addr} {od2 an2 : Option Addr} {sl2 : Array (Option Value)} {oc2 kV2 dc2 pm2 ct2 : Value} {cd2 : Value}
    {f3 : Addr} {od3 an3 : Option Addr} {sl3 : Array (Option Value)} {oc3 kV3 dc3 pm3 ct3 : Value} {cd3 : Value}
    {f4 : Addr} {od4 an4 : Option Addr} {sl4 : Array (Option Value)} {oc4 kV4 dc4 pm4 ct4 : Value} {cd4 : Value}
    {f5 : Addr} {od5 an5 : Option Addr} {sl5 : Array (Option Value)} {oc5 kV5 dc5 pm5 ct5 : Value} {cd5 : Value}
    {f6 : Addr} {od6 an6 : Option Addr} {sl6 : Array (Option Value)} {oc6 kV6 dc6 pm6 ct6 : Value} {cd6 : Value}
    {f7 : Addr} {od7 an7 : Option Addr} {sl7 : Array (Option Value)} {oc7 kV7 dc7 pm7 ct7 : Value} {cd7 : Value}
    {f8 : Addr} {od8 an8 : Option Addr} {sl8 : Array (Option Value)} {oc8 kV8 dc8 pm8 ct8 : Value} {cd8 : Value}
    {f9 : Addr} {od9 an9 : Option Addr} {sl9 : Array (Option Value)} {oc9 kV9 dc9 pm9 ct9 : Value} {cd9 : Value}
    {f10 : Addr} {od10 an10 : Option Addr} {sl10 : Array (Option Value)} {oc10 kV10 dc10 pm10 ct10 : Value} {cd10 : Value}
    {f11 : Addr} {od11 an11 : Option Addr} {sl11 : Array (Option Value)} {oc11 kV11 dc11 pm11 ct11 : Value} {cd11 : Value}
    {f12 : Addr} {od12 an12 : Option Addr} {sl12 : Array (Option Value)} {oc12 kV12 dc12 pm12 ct12 : Value} {cd12 : Value}
    {f13 : Addr} {od13 an13 : Option Addr} {sl13 : Array (Option Value)} {oc13 kV13 dc13 pm13 ct13 : Value} {cd13 : Value}
    {f14 : Addr} {od14 an14 : Option Addr} {sl14 : Array (Option Value)} {oc14 kV14 dc14 pm14 ct14 : Value} {cd14 : Value}
    {f15 : Addr} {od15 an15 : Option Addr} {sl15 : Array (Option Value)} {oc15 kV15 dc15 pm15 ct15 : Value} {cd15 : Value}
    {f16 : Addr} {od16 an16 : Option Addr} {sl16 : Array (Option Value)} {oc16 kV16 dc16 pm16 ct16 : Value} {cd16 : Value}
    {f17 : Addr} {od17 an17 : Option Addr} {sl17 : Array (Option Value)} {oc17 kV17 dc17 pm17 ct17 : Value} {cd17 : Value}
    {f18 : Addr} {od18 an18 : Option Addr} {sl18 : Array (Option Value)} {oc18 kV18 dc18 pm18 ct18 : Value} {cd18 : Value}
    {f19 : Addr} {od19 an19 : Option Addr} {sl19 : Array (Option Value)} {oc19 kV19 dc19 pm19 ct19 : Value} {cd19 : Value}
    {f20 : Addr} {od20 an20 : Option Addr} {sl20 : Array (Option Value)} {oc20 kV20 dc20 pm20 ct20 : Value} {cd20 : Value}
    {f21 : Addr} {od21 an21 : Option Addr} {sl21 : Array (Option Value)} {oc21 kV21 dc21 pm21 ct21 : Value} {cd21 : Value}
    {f22 : Addr} {od22 an22 : Option Addr} {sl22 : Array (Option Value)} {oc22 kV22 dc22 pm22 ct22 : Value} {cd22 : Value}
    {f23 : Addr} {od23 an23 : Option Addr} {sl23 : Array (Option Value)} {oc23 kV23 dc23 pm23 ct23 : Value} {cd23 : Value}
    {f24 : Addr} {od24 an24 : Option Addr} {sl24 : Array (Option Value)} {oc24 kV24 dc24 pm24 ct24 : Value} {cc Pt : Addr} {eC : Value} {dC : Option Addr} {vC : Array Value} {sC : Array (Option Value)}
    {b1 : Addr}
    {b2 : Addr}
    {C25 f25 : Addr} {od25 an25 : Option Addr} {sl25 : Array (Option Value)} {oc25 kV25 dc25 pm25 cd25 ct25 : Value}
    {C26 f26 : Addr} {od26 an26 : Option Addr} {sl26 : Array (Option Value)} {oc26 kV26 dc26 pm26 cd26 ct26 : Value}
    {C27 f27 : Addr} {od27 an27 : Option Addr} {sl27 : Array (Option Value)} {oc27 kV27 dc27 pm27 cd27 ct27 : Value}
    {C28 f28 : Addr} {od28 an28 : Option Addr} {sl28 : Array (Option Value)} {oc28 kV28 dc28 pm28 cd28 ct28 : Value}
    {CT fIT : Addr}
    {od29 an29 : Option Addr} {sl29 : Array (Option Value)} {oc29 kV29 dc29 pm29 cd29 ct29 : Value}
    {f30 : Addr} {od30 an30 : Option Addr} {sl30 : Array (Option Value)} {oc30 kV30 dc30 pm30 cd30 ct30 : Value}
    {f31 : Addr} {od31 an31 : Option Addr} {sl31 : Array (Option Value)} {oc31 kV31 dc31 pm31 cd31 ct31 : Value}
    {f32 : Addr} {od32 an32 : Option Addr} {sl32 : Array (Option Value)} {oc32 kV32 dc32 pm32 cd32 ct32 : Value}
    {tL : Tok}
    {tM : Tok}
    
    {tgMF : Tok}
    {tgMK : Tok}
    (hfa : mg "law" = some (.ref fa))
    (a0 : PySem.W.nsIn K mainGlobals "copied" = some (some (.ref f0))) (l0 : K.lookup f0 = some ⟨oc0, od0, .func (PySem.W.fnOf "copied" "copied" (defArgs s_p_copied) (defBody s_p_copied) (defScope s_p_copied) .none kV0 dc0 pm0 an0 cd0 ct0), sl0⟩) (c0 : PySem.W.codeIn K cd0 "copied" = true) (k0 : PySem.W.keepIn K (.ref f0) = true)
    (a1 : PySem.W.nsIn K mainGlobals "is_name" = some (some (.ref f1))) (l1 : K.lookup f1 = some ⟨oc1, od1, .func (PySem.W.fnOf "is_name" "is_name" (defArgs s_p_is_name) (defBody s_p_is_name) (defScope s_p_is_name) .none kV1 dc1 pm1 an1 cd1 ct1), sl1⟩) (c1 : PySem.W.codeIn K cd1 "is_name" = true) (k1 : PySem.W.keepIn K (.ref f1) = true)
    (a2 : PySem.W.nsIn K mainGlobals "are_names" = some (some (.ref f2))) (l2 : K.lookup f2 = some ⟨oc2, od2, .func (PySem.W.fnOf "are_names" "are_names" (defArgs s_p_are_names) (defBody s_p_are_names) (defScope s_p_are_names) .none kV2 dc2 pm2 an2 cd2 ct2), sl2⟩) (c2 : PySem.W.codeIn K cd2 "are_names" = true) (k2 : PySem.W.keepIn K (.ref f2) = true)
    (a3 : PySem.W.nsIn K mainGlobals "is_listed" = some (some (.ref f3))) (l3 : K.lookup f3 = some ⟨oc3, od3, .func (PySem.W.fnOf "is_listed" "is_listed" (defArgs s_p_is_listed) (defBody s_p_is_listed) (defScope s_p_is_listed) .none kV3 dc3 pm3 an3 cd3 ct3), sl3⟩) (c3 : PySem.W.codeIn K cd3 "is_listed" = true) (k3 : PySem.W.keepIn K (.ref f3) = true)
    (a4 : PySem.W.nsIn K mainGlobals "check_different" = some (some (.ref f4))) (l4 : K.lookup f4 = some ⟨oc4, od4, .func (PySem.W.fnOf "check_different" "check_different" (defArgs s_p_check_different) (defBody s_p_check_different) (defScope s_p_check_different) .none kV4 dc4 pm4 an4 cd4 ct4), sl4⟩) (c4 : PySem.W.codeIn K cd4 "check_different" = true) (k4 : PySem.W.keepIn K (.ref f4) = true)
    (a5 : PySem.W.nsIn K mainGlobals "_is_holding" = some (some (.ref f5))) (l5 : K.lookup f5 = some ⟨oc5, od5, .func (PySem.W.fnOf "_is_holding" "_is_holding" (defArgs s_p_is_holding) (defBody s_p_is_holding) (defScope s_p_is_holding) .none kV5 dc5 pm5 an5 cd5 ct5), sl5⟩) (c5 : PySem.W.codeIn K cd5 "_is_holding" = true) (k5 : PySem.W.keepIn K (.ref f5) = true)
    (a6 : PySem.W.nsIn K mainGlobals "_kinds_in" = some (some (.ref f6))) (l6 : K.lookup f6 = some ⟨oc6, od6, .func (PySem.W.fnOf "_kinds_in" "_kinds_in" (defArgs s_p_kinds_in) (defBody s_p_kinds_in) (defScope s_p_kinds_in) .none kV6 dc6 pm6 an6 cd6 ct6), sl6⟩) (c6 : PySem.W.codeIn K cd6 "_kinds_in" = true) (k6 : PySem.W.keepIn K (.ref f6) = true)
    (a7 : PySem.W.nsIn K mainGlobals "_law_start" = some (some (.ref f7))) (l7 : K.lookup f7 = some ⟨oc7, od7, .func (PySem.W.fnOf "_law_start" "_law_start" (defArgs s_l_start) (defBody s_l_start) (defScope s_l_start) .none kV7 dc7 pm7 an7 cd7 ct7), sl7⟩) (c7 : PySem.W.codeIn K cd7 "_law_start" = true) (k7 : PySem.W.keepIn K (.ref f7) = true)
    (a8 : PySem.W.nsIn K mainGlobals "_law_draw" = some (some (.ref f8))) (l8 : K.lookup f8 = some ⟨oc8, od8, .func (PySem.W.fnOf "_law_draw" "_law_draw" (defArgs s_l_draw) (defBody s_l_draw) (defScope s_l_draw) .none kV8 dc8 pm8 an8 cd8 ct8), sl8⟩) (c8 : PySem.W.codeIn K cd8 "_law_draw" = true) (k8 : PySem.W.keepIn K (.ref f8) = true)
    (a9 : PySem.W.nsIn K mainGlobals "_law_pick" = some (some (.ref f9))) (l9 : K.lookup f9 = some ⟨oc9, od9, .func (PySem.W.fnOf "_law_pick" "_law_pick" (defArgs s_l_pick) (defBody s_l_pick) (defScope s_l_pick) .none kV9 dc9 pm9 an9 cd9 ct9), sl9⟩) (c9 : PySem.W.codeIn K cd9 "_law_pick" = true) (k9 : PySem.W.keepIn K (.ref f9) = true)
    (a10 : PySem.W.nsIn K mainGlobals "_law_shuffle" = some (some (.ref f10))) (l10 : K.lookup f10 = some ⟨oc10, od10, .func (PySem.W.fnOf "_law_shuffle" "_law_shuffle" (defArgs s_l_shuffle) (defBody s_l_shuffle) (defScope s_l_shuffle) .none kV10 dc10 pm10 an10 cd10 ct10), sl10⟩) (c10 : PySem.W.codeIn K cd10 "_law_shuffle" = true) (k10 : PySem.W.keepIn K (.ref f10) = true)
    (a11 : PySem.W.nsIn K mainGlobals "_law_letters" = some (some (.ref f11))) (l11 : K.lookup f11 = some ⟨oc11, od11, .func (PySem.W.fnOf "_law_letters" "_law_letters" (defArgs s_l_letters) (defBody s_l_letters) (defScope s_l_letters) .none kV11 dc11 pm11 an11 cd11 ct11), sl11⟩) (c11 : PySem.W.codeIn K cd11 "_law_letters" = true) (k11 : PySem.W.keepIn K (.ref f11) = true)
    (a12 : PySem.W.nsIn K mainGlobals "_law_word" = some (some (.ref f12))) (l12 : K.lookup f12 = some ⟨oc12, od12, .func (PySem.W.fnOf "_law_word" "_law_word" (defArgs s_l_word) (defBody s_l_word) (defScope s_l_word) .none kV12 dc12 pm12 an12 cd12 ct12), sl12⟩) (c12 : PySem.W.codeIn K cd12 "_law_word" = true) (k12 : PySem.W.keepIn K (.ref f12) = true)
    (a13 : PySem.W.nsIn K mainGlobals "_law_names" = some (some (.ref f13))) (l13 : K.lookup f13 = some ⟨oc13, od13, .func (PySem.W.fnOf "_law_names" "_law_names" (defArgs s_l_names) (defBody s_l_names) (defScope s_l_names) .none kV13 dc13 pm13 an13 cd13 ct13), sl13⟩) (c13 : PySem.W.codeIn K cd13 "_law_names" = true) (k13 : PySem.W.keepIn K (.ref f13) = true)
    (a14 : PySem.W.nsIn K mainGlobals "_law_odd" = some (some (.ref f14))) (l14 : K.lookup f14 = some ⟨oc14, od14, .func (PySem.W.fnOf "_law_odd" "_law_odd" (defArgs s_l_odd) (defBody s_l_odd) (defScope s_l_odd) .none kV14 dc14 pm14 an14 cd14 ct14), sl14⟩) (c14 : PySem.W.codeIn K cd14 "_law_odd" = true) (k14 : PySem.W.keepIn K (.ref f14) = true)
    (a15 : PySem.W.nsIn K mainGlobals "_law_same" = some (some (.ref f15))) (l15 : K.lookup f15 = some ⟨oc15, od15, .func (PySem.W.fnOf "_law_same" "_law_same" (defArgs s_l_same) (defBody s_l_same) (defScope s_l_same) .none kV15 dc15 pm15 an15 cd15 ct15), sl15⟩) (c15 : PySem.W.codeIn K cd15 "_law_same" = true) (k15 : PySem.W.keepIn K (.ref f15) = true)
    (a16 : PySem.W.nsIn K mainGlobals "_law_fields" = some (some (.ref f16))) (l16 : K.lookup f16 = some ⟨oc16, od16, .func (PySem.W.fnOf "_law_fields" "_law_fields" (defArgs s_l_fields) (defBody s_l_fields) (defScope s_l_fields) .none kV16 dc16 pm16 an16 cd16 ct16), sl16⟩) (c16 : PySem.W.codeIn K cd16 "_law_fields" = true) (k16 : PySem.W.keepIn K (.ref f16) = true)
    (a17 : PySem.W.nsIn K mainGlobals "_law_try" = some (some (.ref f17))) (l17 : K.lookup f17 = some ⟨oc17, od17, .func (PySem.W.fnOf "_law_try" "_law_try" (defArgs s_l_try) (defBody s_l_try) (defScope s_l_try) .none kV17 dc17 pm17 an17 cd17 ct17), sl17⟩) (c17 : PySem.W.codeIn K cd17 "_law_try" = true) (k17 : PySem.W.keepIn K (.ref f17) = true)
    (a18 : PySem.W.nsIn K mainGlobals "_law_is_name" = some (some (.ref f18))) (l18 : K.lookup f18 = some ⟨oc18, od18, .func (PySem.W.fnOf "_law_is_name" "_law_is_name" (defArgs s_l_is_name) (defBody s_l_is_name) (defScope s_l_is_name) .none kV18 dc18 pm18 an18 cd18 ct18), sl18⟩) (c18 : PySem.W.codeIn K cd18 "_law_is_name" = true) (k18 : PySem.W.keepIn K (.ref f18) = true)
    (a19 : PySem.W.nsIn K mainGlobals "_law_stock" = some (some (.ref f19))) (l19 : K.lookup f19 = some ⟨oc19, od19, .func (PySem.W.fnOf "_law_stock" "_law_stock" (defArgs s_l_stock) (defBody s_l_stock) (defScope s_l_stock) .none kV19 dc19 pm19 an19 cd19 ct19), sl19⟩) (c19 : PySem.W.codeIn K cd19 "_law_stock" = true) (k19 : PySem.W.keepIn K (.ref f19) = true)
    (a20 : PySem.W.nsIn K mainGlobals "_law_holdings_due" = some (some (.ref f20))) (l20 : K.lookup f20 = some ⟨oc20, od20, .func (PySem.W.fnOf "_law_holdings_due" "_law_holdings_due" (defArgs s_l_holdings_due) (defBody s_l_holdings_due) (defScope s_l_holdings_due) .none kV20 dc20 pm20 an20 cd20 ct20), sl20⟩) (c20 : PySem.W.codeIn K cd20 "_law_holdings_due" = true) (k20 : PySem.W.keepIn K (.ref f20) = true)
    (a21 : PySem.W.nsIn K mainGlobals "_law_is_row" = some (some (.ref f21))) (l21 : K.lookup f21 = some ⟨oc21, od21, .func (PySem.W.fnOf "_law_is_row" "_law_is_row" (defArgs s_l_is_row) (defBody s_l_is_row) (defScope s_l_is_row) .none kV21 dc21 pm21 an21 cd21 ct21), sl21⟩) (c21 : PySem.W.codeIn K cd21 "_law_is_row" = true) (k21 : PySem.W.keepIn K (.ref f21) = true)
    (a22 : PySem.W.nsIn K mainGlobals "_law_spoilt" = some (some (.ref f22))) (l22 : K.lookup f22 = some ⟨oc22, od22, .func (PySem.W.fnOf "_law_spoilt" "_law_spoilt" (defArgs s_l_spoilt) (defBody s_l_spoilt) (defScope s_l_spoilt) .none kV22 dc22 pm22 an22 cd22 ct22), sl22⟩) (c22 : PySem.W.codeIn K cd22 "_law_spoilt" = true) (k22 : PySem.W.keepIn K (.ref f22) = true)
    (a23 : PySem.W.nsIn K mainGlobals "_law_shown" = some (some (.ref f23))) (l23 : K.lookup f23 = some ⟨oc23, od23, .func (PySem.W.fnOf "_law_shown" "_law_shown" (defArgs s_l_shown) (defBody s_l_shown) (defScope s_l_shown) .none kV23 dc23 pm23 an23 cd23 ct23), sl23⟩) (c23 : PySem.W.codeIn K cd23 "_law_shown" = true) (k23 : PySem.W.keepIn K (.ref f23) = true)
    (a24 : PySem.W.nsIn K mainGlobals "law" = some (some (.ref f24))) (l24 : K.lookup f24 = some ⟨oc24, od24, .func (PySem.W.fnOf "law" "law" (defArgs s_p_law) (defBody s_p_law) (defScope s_p_law) .none kV24 dc24 pm24 an24 (.ref cc) ct24), sl24⟩) (c24 : PySem.W.codeIn K (.ref cc) "law" = true) (k24 : PySem.W.keepIn K (.ref f24) = true)
    (lc : K.lookup cc = some ⟨eC, dC, .fields vC, sC⟩) (pc : vC[11]? = some (.ref Pt)) (np : K.lookup Pt = none) (hcd : PySem.W.codeHdIn K cc Pt = true) (mT : TSS.contains Pt = true)
    (z_len : PySem.W.nsIn K mainGlobals "len" = some none)
    (z_range : PySem.W.nsIn K mainGlobals "range" = some none)
    (z_int : PySem.W.nsIn K mainGlobals "int" = some none)
    (z_abs : PySem.W.nsIn K mainGlobals "abs" = some none)
    (z_isinstance : PySem.W.nsIn K mainGlobals "isinstance" = some none)
    (z_all : PySem.W.nsIn K mainGlobals "all" = some none)
    (z_any : PySem.W.nsIn K mainGlobals "any" = some none)
    (z_sorted : PySem.W.nsIn K mainGlobals "sorted" = some none)
    (z_set : PySem.W.nsIn K mainGlobals "set" = some none)
    (z_list : PySem.W.nsIn K mainGlobals "list" = some none)
    (z_tuple : PySem.W.nsIn K mainGlobals "tuple" = some none)
    (z_str : PySem.W.nsIn K mainGlobals "str" = some none)
    (z_bool : PySem.W.nsIn K mainGlobals "bool" = some none)
    (z_enumerate : PySem.W.nsIn K mainGlobals "enumerate" = some none)
    (z_min : PySem.W.nsIn K mainGlobals "min" = some none)
    (z_max : PySem.W.nsIn K mainGlobals "max" = some none)
    (ab1 : PySem.W.nsIn K mainGlobals "FindError" = some (some (.ref b1)))
    (ab2 : PySem.W.nsIn K mainGlobals "Missing" = some (some (.ref b2)))
    (a25 : PySem.W.nsIn K mainGlobals "InvalidFind" = some (some (.ref C25)))
    (ei25 : PySem.W.excInitIn K C25 [.type "ValueError", .type "Exception", .type "BaseException", .type "object"] "ValueError.__new__" = true)
    (eo25 : PySem.W.excOver K C25 [.type "ValueError", .type "Exception", .type "BaseException", .type "object"] = true)
    (sa25 : PySem.W.findIn K (.ref C25) "__setattr__" = some (some (.builtin "object.__setattr__")))
    (ex25 : PySem.W.subIn K (.ref C25) (.type "BaseException") = some true)
    (ty25 : PySem.W.typeIn K (.ref C25) = some (.type "type"))
    (kC25 : PySem.W.keepIn K (.ref C25) = true)
    (hd25 : PySem.W.hasDictIn K C25 = true)
    (ga25 : PySem.W.findIn K (.ref C25) "__getattribute__" = some (some (.builtin "BaseException.__getattribute__")))
    (gg25 : PySem.W.findIn K (.ref C25) "__getattr__" = some none)
    (in25 : PySem.W.findIn K (.ref C25) "__init__" = some (some (.ref f25)))
    (ti25 : PySem.W.typeIn K (.ref f25) = some (.type "function"))
    (l25 : K.lookup f25 = some ⟨oc25, od25, .func (PySem.W.fnOf "__init__" "InvalidFind.__init__" (defArgs s_c_InvalidFind_init) (defBody s_c_InvalidFind_init) (defScope s_c_InvalidFind_init) .none kV25 dc25 pm25 an25 cd25 ct25), sl25⟩) (c25 : PySem.W.codeIn K cd25 "InvalidFind.__init__" = true) (k25 : PySem.W.keepIn K (.ref f25) = true)
    (ca25 : PySem.W.exmAny K (.ref C25) [.ref b1, .ref b2] = some true)
    (nf25_0 : PySem.W.findIn K (.ref C25) "at" = some none)
    (nf25_1 : PySem.W.findIn K (.ref C25) "code" = some none)
    (a26 : PySem.W.nsIn K mainGlobals "DuplicateName" = some (some (.ref C26)))
    (ei26 : PySem.W.excInitIn K C26 [.type "ValueError", .type "Exception", .type "BaseException", .type "object"] "ValueError.__new__" = true)
    (eo26 : PySem.W.excOver K C26 [.type "ValueError", .type "Exception", .type "BaseException", .type "object"] = true)
    (sa26 : PySem.W.findIn K (.ref C26) "__setattr__" = some (some (.builtin "object.__setattr__")))
    (ex26 : PySem.W.subIn K (.ref C26) (.type "BaseException") = some true)
    (ty26 : PySem.W.typeIn K (.ref C26) = some (.type "type"))
    (kC26 : PySem.W.keepIn K (.ref C26) = true)
    (hd26 : PySem.W.hasDictIn K C26 = true)
    (ga26 : PySem.W.findIn K (.ref C26) "__getattribute__" = some (some (.builtin "BaseException.__getattribute__")))
    (gg26 : PySem.W.findIn K (.ref C26) "__getattr__" = some none)
    (in26 : PySem.W.findIn K (.ref C26) "__init__" = some (some (.ref f26)))
    (ti26 : PySem.W.typeIn K (.ref f26) = some (.type "function"))
    (l26 : K.lookup f26 = some ⟨oc26, od26, .func (PySem.W.fnOf "__init__" "DuplicateName.__init__" (defArgs s_c_DuplicateName_init) (defBody s_c_DuplicateName_init) (defScope s_c_DuplicateName_init) .none kV26 dc26 pm26 an26 cd26 ct26), sl26⟩) (c26 : PySem.W.codeIn K cd26 "DuplicateName.__init__" = true) (k26 : PySem.W.keepIn K (.ref f26) = true)
    (ca26 : PySem.W.exmAny K (.ref C26) [.ref b1, .ref b2] = some true)
    (nf26_0 : PySem.W.findIn K (.ref C26) "name" = some none)
    (nf26_1 : PySem.W.findIn K (.ref C26) "code" = some none)
    (a27 : PySem.W.nsIn K mainGlobals "TooMany" = some (some (.ref C27)))
    (ei27 : PySem.W.excInitIn K C27 [.type "ValueError", .type "Exception", .type "BaseException", .type "object"] "ValueError.__new__" = true)
    (eo27 : PySem.W.excOver K C27 [.type "ValueError", .type "Exception", .type "BaseException", .type "object"] = true)
    (sa27 : PySem.W.findIn K (.ref C27) "__setattr__" = some (some (.builtin "object.__setattr__")))
    (ex27 : PySem.W.subIn K (.ref C27) (.type "BaseException") = some true)
    (ty27 : PySem.W.typeIn K (.ref C27) = some (.type "type"))
    (kC27 : PySem.W.keepIn K (.ref C27) = true)
    (hd27 : PySem.W.hasDictIn K C27 = true)
    (ga27 : PySem.W.findIn K (.ref C27) "__getattribute__" = some (some (.builtin "BaseException.__getattribute__")))
    (gg27 : PySem.W.findIn K (.ref C27) "__getattr__" = some none)
    (in27 : PySem.W.findIn K (.ref C27) "__init__" = some (some (.ref f27)))
    (ti27 : PySem.W.typeIn K (.ref f27) = some (.type "function"))
    (l27 : K.lookup f27 = some ⟨oc27, od27, .func (PySem.W.fnOf "__init__" "TooMany.__init__" (defArgs s_c_TooMany_init) (defBody s_c_TooMany_init) (defScope s_c_TooMany_init) .none kV27 dc27 pm27 an27 cd27 ct27), sl27⟩) (c27 : PySem.W.codeIn K cd27 "TooMany.__init__" = true) (k27 : PySem.W.keepIn K (.ref f27) = true)
    (ca27 : PySem.W.exmAny K (.ref C27) [.ref b1, .ref b2] = some true)
    (nf27_0 : PySem.W.findIn K (.ref C27) "most" = some none)
    (nf27_1 : PySem.W.findIn K (.ref C27) "code" = some none)
    (a28 : PySem.W.nsIn K mainGlobals "UnknownFind" = some (some (.ref C28)))
    (ei28 : PySem.W.excInitIn K C28 [.type "LookupError", .type "Exception", .type "BaseException", .type "object"] "LookupError.__new__" = true)
    (eo28 : PySem.W.excOver K C28 [.type "LookupError", .type "Exception", .type "BaseException", .type "object"] = true)
    (sa28 : PySem.W.findIn K (.ref C28) "__setattr__" = some (some (.builtin "object.__setattr__")))
    (ex28 : PySem.W.subIn K (.ref C28) (.type "BaseException") = some true)
    (ty28 : PySem.W.typeIn K (.ref C28) = some (.type "type"))
    (kC28 : PySem.W.keepIn K (.ref C28) = true)
    (hd28 : PySem.W.hasDictIn K C28 = true)
    (ga28 : PySem.W.findIn K (.ref C28) "__getattribute__" = some (some (.builtin "BaseException.__getattribute__")))
    (gg28 : PySem.W.findIn K (.ref C28) "__getattr__" = some none)
    (in28 : PySem.W.findIn K (.ref C28) "__init__" = some (some (.ref f28)))
    (ti28 : PySem.W.typeIn K (.ref f28) = some (.type "function"))
    (l28 : K.lookup f28 = some ⟨oc28, od28, .func (PySem.W.fnOf "__init__" "UnknownFind.__init__" (defArgs s_c_UnknownFind_init) (defBody s_c_UnknownFind_init) (defScope s_c_UnknownFind_init) .none kV28 dc28 pm28 an28 cd28 ct28), sl28⟩) (c28 : PySem.W.codeIn K cd28 "UnknownFind.__init__" = true) (k28 : PySem.W.keepIn K (.ref f28) = true)
    (ca28 : PySem.W.exmAny K (.ref C28) [.ref b1, .ref b2] = some true)
    (nf28_0 : PySem.W.findIn K (.ref C28) "name" = some none)
    (nf28_1 : PySem.W.findIn K (.ref C28) "code" = some none)
    (aCT : PySem.W.nsIn K mainGlobals "Table" = some (some (.ref CT)))
    (pgT : PySem.W.plainGet K CT Str.empty = true)
    (hdT : PySem.W.hasDictIn K CT = true)
    (poT : PySem.W.plainOver K CT = true)
    (saT : PySem.W.findIn K (.ref CT) "__setattr__" = some (some (.builtin "object.__setattr__")))
    (mkT : PySem.W.makesIn K CT = true)
    (inT : PySem.W.findIn K (.ref CT) "__init__" = some (some (.ref fIT)))
    (fnT : PySem.W.isFn K (.ref fIT) = true)
    (kpT : PySem.W.keepIn K (.ref CT) = true)
    (na_held : PySem.W.findIn K (.ref CT) "_held" = some none)
    (l29 : K.lookup fIT = some ⟨oc29, od29, .func (PySem.W.fnOf "__init__" "Table.__init__" (defArgs s_c_Table_init) (defBody s_c_Table_init) (defScope s_c_Table_init) .none kV29 dc29 pm29 an29 cd29 ct29), sl29⟩) (c29 : PySem.W.codeIn K cd29 "Table.__init__" = true) (k29 : PySem.W.keepIn K (.ref fIT) = true)
    (me30 : PySem.W.findIn K (.ref CT) "finds" = some (some (.ref f30))) (mf30 : PySem.W.isFn K (.ref f30) = true) (l30 : K.lookup f30 = some ⟨oc30, od30, .func (PySem.W.fnOf "finds" "Table.finds" (defArgs s_c_Table_finds) (defBody s_c_Table_finds) (defScope s_c_Table_finds) .none kV30 dc30 pm30 an30 cd30 ct30), sl30⟩) (c30 : PySem.W.codeIn K cd30 "Table.finds" = true) (k30 : PySem.W.keepIn K (.ref f30) = true)
    (me31 : PySem.W.findIn K (.ref CT) "kinds_of" = some (some (.ref f31))) (mf31 : PySem.W.isFn K (.ref f31) = true) (l31 : K.lookup f31 = some ⟨oc31, od31, .func (PySem.W.fnOf "kinds_of" "Table.kinds_of" (defArgs s_c_Table_kinds_of) (defBody s_c_Table_kinds_of) (defScope s_c_Table_kinds_of) .none kV31 dc31 pm31 an31 cd31 ct31), sl31⟩) (c31 : PySem.W.codeIn K cd31 "Table.kinds_of" = true) (k31 : PySem.W.keepIn K (.ref f31) = true)
    (me32 : PySem.W.findIn K (.ref CT) "__contains__" = some (some (.ref f32))) (mf32 : PySem.W.isFn K (.ref f32) = true) (l32 : K.lookup f32 = some ⟨oc32, od32, .func (PySem.W.fnOf "__contains__" "Table.__contains__" (defArgs s_c_Table_contains) (defBody s_c_Table_contains) (defScope s_c_Table_contains) .none kV32 dc32 pm32 an32 cd32 ct32), sl32⟩) (c32 : PySem.W.codeIn K cd32 "Table.__contains__" = true) (k32 : PySem.W.keepIn K (.ref f32) = true)
    (xL : PySem.W.nsIn K mainGlobals "_LETTERS" = some (some (.str "abcdefghijklmnopqrstuvwxyz" tL)))
    (xM : PySem.W.nsIn K mainGlobals "_MOST_LETTERS" = some (some (.int 6 tM)))
    (z_repr : PySem.W.nsIn K mainGlobals "repr" = some none)
    (xgMF : PySem.W.nsIn K mainGlobals "MOST_FINDS" = some (some (.int 12 tgMF)))
    (xgMK : PySem.W.nsIn K mainGlobals "MOST_KINDS" = some (some (.int 10 tgMK))) :
    LawG l w K CX0 18 63 "_law_script" mg fa h := by
  have e := hfa.symm.trans (PySem.W.mg_of X G a24)
  cases e
  have Z : Zs mg := ⟨PySem.W.mg_none_of X G z_len, PySem.W.mg_none_of X G z_range, PySem.W.mg_none_of X G z_int, PySem.W.mg_none_of X G z_abs, PySem.W.mg_none_of X G z_isinstance, PySem.W.mg_none_of X G z_all, PySem.W.mg_none_of X G z_any, PySem.W.mg_none_of X G z_sorted, PySem.W.mg_none_of X G z_set, PySem.W.mg_none_of X G z_list, PySem.W.mg_none_of X G z_tuple, PySem.W.mg_none_of X G z_str, PySem.W.mg_none_of X G z_bool, PySem.W.mg_none_of X G z_enumerate, PySem.W.mg_none_of X G z_min, PySem.W.mg_none_of X G z_max⟩
  have F_law := fun_mk (x := "law") (qual := "law") (st := s_p_law) l24 c24 k24
  have A_p_copied : At K mg "copied" s_p_copied ["value"] := at_mk X G a0 l0 c0 k0 fun _ _ _ _ _ _ us hl => match us, hl with | [_], _ => rfl
  have A_p_is_name : At K mg "is_name" s_p_is_name ["value"] := at_mk X G a1 l1 c1 k1 fun _ _ _ _ _ _ us hl => match us, hl with | [_], _ => rfl
  have A_p_are_names : At K mg "are_names" s_p_are_names ["values"] := at_mk X G a2 l2 c2 k2 fun _ _ _ _ _ _ us hl => match us, hl with | [_], _ => rfl
  have A_p_is_listed : At K mg "is_listed" s_p_is_listed ["value"] := at_mk X G a3 l3 c3 k3 fun _ _ _ _ _ _ us hl => match us, hl with | [_], _ => rfl
  have A_p_check_different : At K mg "check_different" s_p_check_different ["names"] := at_mk X G a4 l4 c4 k4 fun _ _ _ _ _ _ us hl => match us, hl with | [_], _ => rfl
  have A_p_is_holding : At K mg "_is_holding" s_p_is_holding ["value"] := at_mk X G a5 l5 c5 k5 fun _ _ _ _ _ _ us hl => match us, hl with | [_], _ => rfl
  have A_p_kinds_in : At K mg "_kinds_in" s_p_kinds_in ["holdings"] := at_mk X G a6 l6 c6 k6 fun _ _ _ _ _ _ us hl => match us, hl with | [_], _ => rfl
  have A_l_start : At K mg "_law_start" s_l_start ["_law_script", "_law_own"] := at_mk X G a7 l7 c7 k7 fun _ _ _ _ _ _ us hl => match us, hl with | [_, _], _ => rfl
  have A_l_draw : At K mg "_law_draw" s_l_draw ["_law_state", "_law_many"] := at_mk X G a8 l8 c8 k8 fun _ _ _ _ _ _ us hl => match us, hl with | [_, _], _ => rfl
  have A_l_pick : At K mg "_law_pick" s_l_pick ["_law_state", "_law_pool"] := at_mk X G a9 l9 c9 k9 fun _ _ _ _ _ _ us hl => match us, hl with | [_, _], _ => rfl
  have A_l_shuffle : At K mg "_law_shuffle" s_l_shuffle ["_law_state", "_law_pool"] := at_mk X G a10 l10 c10 k10 fun _ _ _ _ _ _ us hl => match us, hl with | [_, _], _ => rfl
  have A_l_letters : At K mg "_law_letters" s_l_letters [] := at_mk X G a11 l11 c11 k11 fun _ _ _ _ _ _ us hl => match us, hl with | [], _ => rfl
  have A_l_word : At K mg "_law_word" s_l_word ["_law_state", "_law_longest"] := at_mk X G a12 l12 c12 k12 fun _ _ _ _ _ _ us hl => match us, hl with | [_, _], _ => rfl
  have A_l_names : At K mg "_law_names" s_l_names ["_law_state", "_law_many"] := at_mk X G a13 l13 c13 k13 fun _ _ _ _ _ _ us hl => match us, hl with | [_, _], _ => rfl
  have A_l_odd : At K mg "_law_odd" s_l_odd ["_law_state"] := at_mk X G a14 l14 c14 k14 fun _ _ _ _ _ _ us hl => match us, hl with | [_], _ => rfl
  have A_l_same : At K mg "_law_same" s_l_same ["_law_got", "_law_due"] := at_mk X G a15 l15 c15 k15 fun _ _ _ _ _ _ us hl => match us, hl with | [_, _], _ => rfl
  have A_l_fields : At K mg "_law_fields" s_l_fields ["_law_e"] := at_mk X G a16 l16 c16 k16 fun _ _ _ _ _ _ us hl => match us, hl with | [_], _ => rfl
  have A_l_try : At K mg "_law_try" s_l_try ["_law_ask"] := at_mk X G a17 l17 c17 k17 fun _ _ _ _ _ _ us hl => match us, hl with | [_], _ => rfl
  have A_l_is_name : At K mg "_law_is_name" s_l_is_name ["_law_x"] := at_mk X G a18 l18 c18 k18 fun _ _ _ _ _ _ us hl => match us, hl with | [_], _ => rfl
  have A_l_stock : At K mg "_law_stock" s_l_stock ["_law_state", "_law_tags", "_law_sorts"] := at_mk X G a19 l19 c19 k19 fun _ _ _ _ _ _ us hl => match us, hl with | [_, _, _], _ => rfl
  have A_l_holdings_due : At K mg "_law_holdings_due" s_l_holdings_due ["_law_x"] := at_mk X G a20 l20 c20 k20 fun _ _ _ _ _ _ us hl => match us, hl with | [_], _ => rfl
  have A_l_is_row : At K mg "_law_is_row" s_l_is_row ["_law_x"] := at_mk X G a21 l21 c21 k21 fun _ _ _ _ _ _ us hl => match us, hl with | [_], _ => rfl
  have A_l_spoilt : At K mg "_law_spoilt" s_l_spoilt ["_law_state", "_law_rows", "_law_pool"] := at_mk X G a22 l22 c22 k22 fun _ _ _ _ _ _ us hl => match us, hl with | [_, _, _], _ => rfl
  have A_l_shown : At K mg "_law_shown" s_l_shown ["_law_made"] := at_mk X G a23 l23 c23 k23 fun _ _ _ _ _ _ us hl => match us, hl with | [_], _ => rfl
  have hm1 : mg "FindError" = some (.ref b1) := PySem.W.mg_of X G ab1
  have hm2 : mg "Missing" = some (.ref b2) := PySem.W.mg_of X G ab2
  have F_c_InvalidFind_init := fun_mk (x := "__init__") (qual := "InvalidFind.__init__") (st := s_c_InvalidFind_init) l25 c25 k25
  have E_c_InvalidFind_init : ErrC K mg "InvalidFind" "InvalidFind.__init__" s_c_InvalidFind_init ["self", "at"] ["at", "code"] C25 f25 _ := ⟨PySem.W.mg_of X G a25, ⟨⟨_, _, _, _, PySem.F.excBase_ValueError, PySem.F.store_ValueError, ei25, eo25⟩, sa25, ex25, ty25, kC25, hd25⟩, ⟨ga25, gg25, ex25, hd25⟩, (fun f hf => by
      simp only [List.mem_cons, List.not_mem_nil, or_false] at hf
      rcases hf with rfl | rfl
      · exact nf25_0
      · exact nf25_1), in25, ti25, F_c_InvalidFind_init, F_c_InvalidFind_init.binds (ps := ["self", "at"]) (fun _ _ _ _ _ _ us hl => match us, hl with | [_, _], _ => rfl), fun c1 c2 h1 h2 => by
    cases h1.symm.trans hm1
    cases h2.symm.trans hm2
    exact ca25⟩
  have F_c_DuplicateName_init := fun_mk (x := "__init__") (qual := "DuplicateName.__init__") (st := s_c_DuplicateName_init) l26 c26 k26
  have E_c_DuplicateName_init : ErrC K mg "DuplicateName" "DuplicateName.__init__" s_c_DuplicateName_init ["self", "name"] ["name", "code"] C26 f26 _ := ⟨PySem.W.mg_of X G a26, ⟨⟨_, _, _, _, PySem.F.excBase_ValueError, PySem.F.store_ValueError, ei26, eo26⟩, sa26, ex26, ty26, kC26, hd26⟩, ⟨ga26, gg26, ex26, hd26⟩, (fun f hf => by
      simp only [List.mem_cons, List.not_mem_nil, or_false] at hf
      rcases hf with rfl | rfl
      · exact nf26_0
      · exact nf26_1), in26, ti26, F_c_DuplicateName_init, F_c_DuplicateName_init.binds (ps := ["self", "name"]) (fun _ _ _ _ _ _ us hl => match us, hl with | [_, _], _ => rfl), fun c1 c2 h1 h2 => by
    cases h1.symm.trans hm1
    cases h2.symm.trans hm2
    exact ca26⟩
  have F_c_TooMany_init := fun_mk (x := "__init__") (qual := "TooMany.__init__") (st := s_c_TooMany_init) l27 c27 k27
  have E_c_TooMany_init : ErrC K mg "TooMany" "TooMany.__init__" s_c_TooMany_init ["self", "most"] ["most", "code"] C27 f27 _ := ⟨PySem.W.mg_of X G a27, ⟨⟨_, _, _, _, PySem.F.excBase_ValueError, PySem.F.store_ValueError, ei27, eo27⟩, sa27, ex27, ty27, kC27, hd27⟩, ⟨ga27, gg27, ex27, hd27⟩, (fun f hf => by
      simp only [List.mem_cons, List.not_mem_nil, or_false] at hf
      rcases hf with rfl | rfl
      · exact nf27_0
      · exact nf27_1), in27, ti27, F_c_TooMany_init, F_c_TooMany_init.binds (ps := ["self", "most"]) (fun _ _ _ _ _ _ us hl => match us, hl with | [_, _], _ => rfl), fun c1 c2 h1 h2 => by
    cases h1.symm.trans hm1
    cases h2.symm.trans hm2
    exact ca27⟩
  have F_c_UnknownFind_init := fun_mk (x := "__init__") (qual := "UnknownFind.__init__") (st := s_c_UnknownFind_init) l28 c28 k28
  have E_c_UnknownFind_init : ErrC K mg "UnknownFind" "UnknownFind.__init__" s_c_UnknownFind_init ["self", "name"] ["name", "code"] C28 f28 _ := ⟨PySem.W.mg_of X G a28, ⟨⟨_, _, _, _, PySem.F.excBase_LookupError, PySem.F.store_LookupError, ei28, eo28⟩, sa28, ex28, ty28, kC28, hd28⟩, ⟨ga28, gg28, ex28, hd28⟩, (fun f hf => by
      simp only [List.mem_cons, List.not_mem_nil, or_false] at hf
      rcases hf with rfl | rfl
      · exact nf28_0
      · exact nf28_1), in28, ti28, F_c_UnknownFind_init, F_c_UnknownFind_init.binds (ps := ["self", "name"]) (fun _ _ _ _ _ _ us hl => match us, hl with | [_, _], _ => rfl), fun c1 c2 h1 h2 => by
    cases h1.symm.trans hm1
    cases h2.symm.trans hm2
    exact ca28⟩
  have B_Table : ClsF K mg CT "Table" ["_held"] := ⟨PySem.W.mg_of X G aCT, ⟨pgT, hdT, poT, saT⟩, fun f hf => by
      simp only [List.mem_cons, List.not_mem_nil, or_false] at hf
      rcases hf with rfl
      · exact na_held⟩
  have F_c_Table_init : FunD K "__init__" "Table.__init__" (defArgs s_c_Table_init) (defBody s_c_Table_init) (defScope s_c_Table_init) [] [] fIT _ := ⟨⟨_, _, _, _, _, _, _, _, _, _, rfl, l29, c29, .inl ⟨rfl, rfl⟩, .inl rfl⟩, k29⟩
  have bd_c_Table_init : Binds K _ ["self", "holdings"] [] := (fun_mk (x := "__init__") (qual := "Table.__init__") (st := s_c_Table_init) l29 c29 k29).binds (ps := ["self", "holdings"]) (fun _ _ _ _ _ _ us hl => match us, hl with | [_, _], _ => rfl)
  have F_c_Table_finds : FunD K "finds" "Table.finds" (defArgs s_c_Table_finds) (defBody s_c_Table_finds) (defScope s_c_Table_finds) [] [] f30 _ := ⟨⟨_, _, _, _, _, _, _, _, _, _, rfl, l30, c30, .inl ⟨rfl, rfl⟩, .inl rfl⟩, k30⟩
  have bd_c_Table_finds : Binds K _ ["self"] [] := (fun_mk (x := "finds") (qual := "Table.finds") (st := s_c_Table_finds) l30 c30 k30).binds (ps := ["self"]) (fun _ _ _ _ _ _ us hl => match us, hl with | [_], _ => rfl)
  have F_c_Table_kinds_of : FunD K "kinds_of" "Table.kinds_of" (defArgs s_c_Table_kinds_of) (defBody s_c_Table_kinds_of) (defScope s_c_Table_kinds_of) [] [] f31 _ := ⟨⟨_, _, _, _, _, _, _, _, _, _, rfl, l31, c31, .inl ⟨rfl, rfl⟩, .inl rfl⟩, k31⟩
  have bd_c_Table_kinds_of : Binds K _ ["self", "name"] [] := (fun_mk (x := "kinds_of") (qual := "Table.kinds_of") (st := s_c_Table_kinds_of) l31 c31 k31).binds (ps := ["self", "name"]) (fun _ _ _ _ _ _ us hl => match us, hl with | [_, _], _ => rfl)
  have F_c_Table_contains : FunD K "__contains__" "Table.__contains__" (defArgs s_c_Table_contains) (defBody s_c_Table_contains) (defScope s_c_Table_contains) [] [] f32 _ := ⟨⟨_, _, _, _, _, _, _, _, _, _, rfl, l32, c32, .inl ⟨rfl, rfl⟩, .inl rfl⟩, k32⟩
  have bd_c_Table_contains : Binds K _ ["self", "name"] [] := (fun_mk (x := "__contains__") (qual := "Table.__contains__") (st := s_c_Table_contains) l32 c32 k32).binds (ps := ["self", "name"]) (fun _ _ _ _ _ _ us hl => match us, hl with | [_, _], _ => rfl)
  have gL : ∃ t, mg "_LETTERS" = some (.str abc t) := ⟨_, PySem.W.mg_of X G xL⟩
  have gM : ∃ t, mg "_MOST_LETTERS" = some (.int 6 t) := ⟨_, PySem.W.mg_of X G xM⟩
  have zR : mg "repr" = none := PySem.W.mg_none_of X G z_repr
  have gMF : ∃ t, mg "MOST_FINDS" = some (.int 12 t) := ⟨_, PySem.W.mg_of X G xgMF⟩
  have gMK : ∃ t, mg "MOST_KINDS" = some (.int 10 t) := ⟨_, PySem.W.mg_of X G xgMK⟩
  have own1 := own Pt (by simpa using mT)
  obtain ⟨T, hT⟩ : ∃ T : List (Addr × Str), T = [(Pt, (envOfC "law" (defScope s_p_law) 0 fa (.ref cc)).qual ++ "<lambda>")] := ⟨_, rfl⟩
  have hmT : (Pt, (envOfC "law" (defScope s_p_law) 0 fa (.ref cc)).qual ++ "<lambda>") ∈ T := by rw [hT]; exact List.mem_cons_self
  have huT : ∀ p ∈ T, p.1 = Pt → p.2 = (envOfC "law" (defScope s_p_law) 0 fa (.ref cc)).qual ++ "<lambda>" := fun p hp e => by
    rw [hT] at hp
    rw [List.mem_singleton.mp hp]
  refine ⟨PySem.W.fnOf "law" "law" (defArgs s_p_law) (defBody s_p_law) (defScope s_p_law) .none kV24 dc24 pm24 an24 (.ref cc) ct24, [(cc, Pt)], spLawTs K T, fun p hp => ?_, fun p hp => ?_, fun p hp => ?_, fun s u => .of_eq (by rfl), fun H a ns hl _ hTb hS => ⟨a, ns, rfl, hS, hl, fun p hp => ?_, fun _ => rfl⟩, fun base _ _ hTB => ?_⟩
  · rw [List.mem_singleton.mp hp]; exact own1
  · rw [List.mem_singleton.mp hp]; exact np
  · rw [List.mem_singleton.mp hp]; exact PySem.W.codeHd_of_K X hcd
  · rw [hT] at hp
    rw [List.mem_singleton.mp hp]; exact LamX.TabS.nil (hTb (cc, Pt) List.mem_cons_self)
  have TB := hTB (cc, Pt) List.mem_cons_self
  have H_l_start := has_l_start (P := l.prog) (w := w) (base := base) Z A_l_start
  have H_l_draw := has_l_draw (P := l.prog) (w := w) (base := base) Z A_l_draw
  have H_l_pick := has_l_pick (P := l.prog) (w := w) (base := base) Z A_l_pick (H_l_draw)
  have H_l_letters := has_l_letters (P := l.prog) (w := w) (base := base) Z A_l_letters
  have H_l_word := has_l_word (P := l.prog) (w := w) (base := base) Z A_l_word (H_l_draw) (H_l_letters)
  have H_l_shuffle := has_l_shuffle (P := l.prog) (w := w) (base := base) Z A_l_shuffle (H_l_draw)
  have H_l_names := has_l_names (P := l.prog) (w := w) (base := base) Z A_l_names (H_l_draw) (H_l_pick) (H_l_letters) (H_l_word) (H_l_shuffle)
  have H_l_odd := has_l_odd (P := l.prog) (w := w) (base := base) Z A_l_odd (H_l_pick)
  have H_l_stock := has_l_stock (P := l.prog) (w := w) (base := base) Z A_l_stock (H_l_draw) (H_l_pick)
  have H_l_spoilt := has_l_spoilt (P := l.prog) (w := w) (base := base) Z A_l_spoilt (H_l_draw) (H_l_pick) (H_l_odd)
  have H_l_is_name := fun n : Nat => has_l_is_name (P := l.prog) (w := w) (base := base) n Z A_l_is_name (H_l_letters)
  have H_l_is_row := has_l_is_row (P := l.prog) (w := w) (base := base) Z A_l_is_row (H_l_is_name 5)
  have H_l_holdings_due := has_l_holdings_due (P := l.prog) (w := w) (base := base) Z A_l_holdings_due (H_l_is_row)
  have H_l_same := has_l_same (P := l.prog) (w := w) (base := base) Z A_l_same
  have H_c_Table_finds : HasM l.prog w K mg base CT "finds" 1 ["self"] (spTFinds K CT) := ⟨f30, _, ⟨me30, mf30, k30⟩, has_c_Table_finds (P := l.prog) (w := w) (base := base) Z B_Table F_c_Table_finds, bd_c_Table_finds⟩
  have H_p_is_name := fun n : Nat => has_p_is_name (P := l.prog) (w := w) (base := base) n Z gL gM A_p_is_name
  have H_c_Table_contains : HasM l.prog w K mg base CT "__contains__" 3 ["self", "name"] (spTHas K CT) := ⟨f32, _, ⟨me32, mf32, k32⟩, has_c_Table_contains (P := l.prog) (w := w) (base := base) Z B_Table F_c_Table_contains (H_p_is_name 5), bd_c_Table_contains⟩
  have H_p_copied := has_p_copied (P := l.prog) (w := w) (base := base) Z A_p_copied
  have H_c_UnknownFind_init : HasE l.prog w K mg base "UnknownFind" "UnknownFind.__init__" s_c_UnknownFind_init ["self", "name"] ["name", "code"] 7 (spInit1 K "UnknownFind" "name" 6) := ⟨_, _, _, E_c_UnknownFind_init, has_c_UnknownFind_init (P := l.prog) (w := w) (base := base) Z F_c_UnknownFind_init (H_p_copied)⟩
  have H_c_Table_kinds_of : HasM l.prog w K mg base CT "kinds_of" 9 ["self", "name"] (spTOf K mg CT) := ⟨f31, _, ⟨me31, mf31, k31⟩, has_c_Table_kinds_of (P := l.prog) (w := w) (base := base) Z B_Table F_c_Table_kinds_of (H_c_Table_contains) (H_c_UnknownFind_init), bd_c_Table_kinds_of⟩
  have H_l_shown := has_l_shown (P := l.prog) (w := w) (base := base) Z B_Table A_l_shown (H_c_Table_finds) (H_c_Table_kinds_of)
  have H_p_is_listed := has_p_is_listed (P := l.prog) (w := w) (base := base) Z A_p_is_listed
  have H_c_InvalidFind_init : HasE l.prog w K mg base "InvalidFind" "InvalidFind.__init__" s_c_InvalidFind_init ["self", "at"] ["at", "code"] 7 (spInit1 K "InvalidFind" "at" 6) := ⟨_, _, _, E_c_InvalidFind_init, has_c_InvalidFind_init (P := l.prog) (w := w) (base := base) Z F_c_InvalidFind_init (H_p_copied)⟩
  have H_c_TooMany_init : HasE l.prog w K mg base "TooMany" "TooMany.__init__" s_c_TooMany_init ["self", "most"] ["most", "code"] 7 (spInit1 K "TooMany" "most" 6) := ⟨_, _, _, E_c_TooMany_init, has_c_TooMany_init (P := l.prog) (w := w) (base := base) Z F_c_TooMany_init (H_p_copied)⟩
  have H_p_are_names := has_p_are_names (P := l.prog) (w := w) (base := base) Z A_p_are_names (H_p_is_name 5)
  have H_p_is_holding := has_p_is_holding (P := l.prog) (w := w) (base := base) Z A_p_is_holding (H_p_is_name 5) (H_p_is_listed) (H_p_are_names)
  have H_c_DuplicateName_init : HasE l.prog w K mg base "DuplicateName" "DuplicateName.__init__" s_c_DuplicateName_init ["self", "name"] ["name", "code"] 7 (spInit1 K "DuplicateName" "name" 6) := ⟨_, _, _, E_c_DuplicateName_init, has_c_DuplicateName_init (P := l.prog) (w := w) (base := base) Z F_c_DuplicateName_init (H_p_copied)⟩
  have H_p_check_different := has_p_check_different (P := l.prog) (w := w) (base := base) Z A_p_check_different (H_c_DuplicateName_init)
  have H_p_kinds_in := has_p_kinds_in (P := l.prog) (w := w) (base := base) Z A_p_kinds_in
  have H_c_Table_init : HasI l.prog w K mg base CT 10 ["self", "holdings"] (fun d => d = []) (spTabI K mg CT) := ⟨fIT, _, [], [], ⟨mkT, inT, fnT, kpT⟩, has_c_Table_init (P := l.prog) (w := w) (base := base) Z gMF gMK B_Table F_c_Table_init (H_p_is_listed) (H_c_InvalidFind_init) (H_c_TooMany_init) (H_p_is_holding) (H_p_check_different) (H_p_kinds_in), bd_c_Table_init, .nil, rfl⟩
  have kbn_c_Table_init : KBn K _ ["self", "holdings"] 1 ["holdings"] gS1 gS1 := kbn_of1 (kbS1 (fun_mk (x := "__init__") (qual := "Table.__init__") (st := s_c_Table_init) l29 c29 k29) (fun _ _ _ _ _ _ _ _ => rfl))
  have HK_c_Table_init : HasIK l.prog w K mg base CT 10 ["self", "holdings"] (fun d => d = []) (spTabI K mg CT) ["holdings"] gS1 := ⟨fIT, _, [], [], ⟨mkT, inT, fnT, kpT⟩, has_c_Table_init (P := l.prog) (w := w) (base := base) Z gMF gMK B_Table F_c_Table_init (H_p_is_listed) (H_c_InvalidFind_init) (H_c_TooMany_init) (H_p_is_holding) (H_p_check_different) (H_p_kinds_in), bd_c_Table_init, .nil, rfl, _, kbn_c_Table_init⟩
  have H_l_fields := has_l_fields (P := l.prog) (w := w) (base := base) Z A_l_fields
  exact has_p_law (P := l.prog) (w := w) (base := base) Z zR B_Table F_law rfl TB hm1 hm2 hmT huT (H_l_start) (H_l_names) (H_l_pick) (H_l_odd) (H_l_stock) (H_l_spoilt) (H_l_holdings_due) (H_l_same) (H_l_shown) HK_c_Table_init (H_l_fields) A_l_try
theorem walk {l : PySem.W.OpenLaw} {q : Program} {loose : List Str} {XP : (Str → Option Value) → Heap → Prop} {YP : World → Heap → Prop} {d : DefRec} {K : Params → PySem.W.Frag} {TSS : List Addr} (hn : l.most = some 63) (hdf : d.params.defaults = [])
    (hY : ∀ (w : World) (h : Heap), YP w h → (K w.params).In h ∧ ∀ P ∈ TSS, h.get? P = some { cls := .none, data := .fields #[] })
    (F : ∀ (w : World) (mg : Str → Option Value) (fa : Addr) (h : Heap), (K w.params).In h → h.Ns mainGlobals mg → mg d.name = some (.ref fa) → (∀ P ∈ TSS, h.get? P = some { cls := .none, data := .fields #[] }) → LawG l w (K w.params) CX0 18 63 "_law_script" mg fa h) :
    PySem.W.WalkO q loose XP YP l.row.toRowW d [] (fun f vs => PySem.call f vs) :=
  walkG (n := 63) (k := 18) (x := "_law_script") (CX := fun _ => CX0) hn (by decide) hdf ⟨rfl, by decide, by decide⟩ (fun w h Y => (hY w h Y).1) (fun w mg fa h Y kx g hm => F w mg fa h kx g hm (hY w h Y).2) fun _ _ _ _ _ z => z
end Th
open PySem PySem.W PyProof.Rows
set_option maxRecDepth 100000 in
set_option maxHeartbeats 0 in
theorem PySem.Challenge.cw_threeorders_k07_tables_refused_holds : PySem.Challenge.rw_threeorders_k07_tables_refused.Holds := by
  w_on; o_law; k_head; (case hw => w_witness2)
  k_fill
  refine Th.walk (l := PySem.Challenge.rw_threeorders_k07_tables_refused) rfl rfl (fun w h Y => ⟨Y.1, Y.2⟩) ?F
  case F =>
    intro w mg fa h KX G hmg own
    refine' Th.all_mk KX G own hmg ?a0 ?l0 ?c0 ?k0 ?a1 ?l1 ?c1 ?k1 ?a2 ?l2 ?c2 ?k2 ?a3 ?l3 ?c3 ?k3 ?a4 ?l4 ?c4 ?k4 ?a5 ?l5 ?c5 ?k5 ?a6 ?l6 ?c6 ?k6 ?a7 ?l7 ?c7 ?k7 ?a8 ?l8 ?c8 ?k8 ?a9 ?l9 ?c9 ?k9 ?a10 ?l10 ?c10 ?k10 ?a11 ?l11 ?c11 ?k11 ?a12 ?l12 ?c12 ?k12 ?a13 ?l13 ?c13 ?k13 ?a14 ?l14 ?c14 ?k14 ?a15 ?l15 ?c15 ?k15 ?a16 ?l16 ?c16 ?k16 ?a17 ?l17 ?c17 ?k17 ?a18 ?l18 ?c18 ?k18 ?a19 ?l19 ?c19 ?k19 ?a20 ?l20 ?c20 ?k20 ?a21 ?l21 ?c21 ?k21 ?a22 ?l22 ?c22 ?k22 ?a23 ?l23 ?c23 ?k23 ?a24 ?l24 ?c24 ?k24 ?lc ?pc ?np ?hcd ?mT ?z_len ?z_range ?z_int ?z_abs ?z_isinstance ?z_all ?z_any ?z_sorted ?z_set ?z_list ?z_tuple ?z_str ?z_bool ?z_enumerate ?z_min ?z_max ?ab1 ?ab2 ?a25 ?ei25 ?eo25 ?sa25 ?ex25 ?ty25 ?kC25 ?hd25 ?ga25 ?gg25 ?in25 ?ti25 ?l25 ?c25 ?k25 ?ca25 ?nf25_0 ?nf25_1 ?a26 ?ei26 ?eo26 ?sa26 ?ex26 ?ty26 ?kC26 ?hd26 ?ga26 ?gg26 ?in26 ?ti26 ?l26 ?c26 ?k26 ?ca26 ?nf26_0 ?nf26_1 ?a27 ?ei27 ?eo27 ?sa27 ?ex27 ?ty27 ?kC27 ?hd27 ?ga27 ?gg27 ?in27 ?ti27 ?l27 ?c27 ?k27 ?ca27 ?nf27_0 ?nf27_1 ?a28 ?ei28 ?eo28 ?sa28 ?ex28 ?ty28 ?kC28 ?hd28 ?ga28 ?gg28 ?in28 ?ti28 ?l28 ?c28 ?k28 ?ca28 ?nf28_0 ?nf28_1 ?aCT ?pgT ?hdT ?poT ?saT ?mkT ?inT ?fnT ?kpT ?na_held ?l29 ?c29 ?k29 ?me30 ?mf30 ?l30 ?c30 ?k30 ?me31 ?mf31 ?l31 ?c31 ?k31 ?me32 ?mf32 ?l32 ?c32 ?k32 ?xL ?xM ?z_repr ?xgMF ?xgMK
    (case a0 => k_is)
    (case l0 => k_is)
    (case c0 => k_is)
    (case k0 => k_is)
    (case a1 => k_is)
    (case l1 => k_is)
    (case c1 => k_is)
    (case k1 => k_is)
    (case a2 => k_is)
    (case l2 => k_is)
    (case c2 => k_is)
    (case k2 => k_is)
    (case a3 => k_is)
    (case l3 => k_is)
    (case c3 => k_is)
    (case k3 => k_is)
    (case a4 => k_is)
    (case l4 => k_is)
    (case c4 => k_is)
    (case k4 => k_is)
    (case a5 => k_is)
    (case l5 => k_is)
    (case c5 => k_is)
    (case k5 => k_is)
    (case a6 => k_is)
    (case l6 => k_is)
    (case c6 => k_is)
    (case k6 => k_is)
    (case a7 => k_is)
    (case l7 => k_is)
    (case c7 => k_is)
    (case k7 => k_is)
    (case a8 => k_is)
    (case l8 => k_is)
    (case c8 => k_is)
    (case k8 => k_is)
    (case a9 => k_is)
    (case l9 => k_is)
    (case c9 => k_is)
    (case k9 => k_is)
    (case a10 => k_is)
    (case l10 => k_is)
    (case c10 => k_is)
    (case k10 => k_is)
    (case a11 => k_is)
    (case l11 => k_is)
    (case c11 => k_is)
    (case k11 => k_is)
    (case a12 => k_is)
    (case l12 => k_is)
    (case c12 => k_is)
    (case k12 => k_is)
    (case a13 => k_is)
    (case l13 => k_is)
    (case c13 => k_is)
    (case k13 => k_is)
    (case a14 => k_is)
    (case l14 => k_is)
    (case c14 => k_is)
    (case k14 => k_is)
    (case a15 => k_is)
    (case l15 => k_is)
    (case c15 => k_is)
    (case k15 => k_is)
    (case a16 => k_is)
    (case l16 => k_is)
    (case c16 => k_is)
    (case k16 => k_is)
    (case a17 => k_is)
    (case l17 => k_is)
    (case c17 => k_is)
    (case k17 => k_is)
    (case a18 => k_is)
    (case l18 => k_is)
    (case c18 => k_is)
    (case k18 => k_is)
    (case a19 => k_is)
    (case l19 => k_is)
    (case c19 => k_is)
    (case k19 => k_is)
    (case a20 => k_is)
    (case l20 => k_is)
    (case c20 => k_is)
    (case k20 => k_is)
    (case a21 => k_is)
    (case l21 => k_is)
    (case c21 => k_is)
    (case k21 => k_is)
    (case a22 => k_is)
    (case l22 => k_is)
    (case c22 => k_is)
    (case k22 => k_is)
    (case a23 => k_is)
    (case l23 => k_is)
    (case c23 => k_is)
    (case k23 => k_is)
    (case a24 => k_is)
    (case l24 => k_is)
    (case c24 => k_is)
    (case k24 => k_is)
    (case lc => k_is)
    (case pc => exact by rfl)
    (case np => first | kernel_rfl | rfl | decide +kernel)
    (case hcd => first | kernel_rfl | rfl | decide +kernel)
    (case mT => exact by kernel_rfl)
    (case z_len => k_is)
    (case z_range => k_is)
    (case z_int => k_is)
    (case z_abs => k_is)
    (case z_isinstance => k_is)
    (case z_all => k_is)
    (case z_any => k_is)
    (case z_sorted => k_is)
    (case z_set => k_is)
    (case z_list => k_is)
    (case z_tuple => k_is)
    (case z_str => k_is)
    (case z_bool => k_is)
    (case z_enumerate => k_is)
    (case z_min => k_is)
    (case z_max => k_is)
    (case ab1 => k_is)
    (case ab2 => k_is)
    (case a25 => k_is)
    (case ei25 => first | kernel_rfl | rfl | decide +kernel)
    (case eo25 => first | kernel_rfl | rfl | decide +kernel)
    (case sa25 => k_is)
    (case ex25 => k_is)
    (case ty25 => k_is)
    (case kC25 => k_is)
    (case hd25 => k_is)
    (case ga25 => k_is)
    (case gg25 => k_is)
    (case in25 => k_is)
    (case ti25 => k_is)
    (case l25 => k_is)
    (case c25 => k_is)
    (case k25 => k_is)
    (case ca25 => first | kernel_rfl | rfl | decide +kernel)
    (case nf25_0 => k_is)
    (case nf25_1 => k_is)
    (case a26 => k_is)
    (case ei26 => first | kernel_rfl | rfl | decide +kernel)
    (case eo26 => first | kernel_rfl | rfl | decide +kernel)
    (case sa26 => k_is)
    (case ex26 => k_is)
    (case ty26 => k_is)
    (case kC26 => k_is)
    (case hd26 => k_is)
    (case ga26 => k_is)
    (case gg26 => k_is)
    (case in26 => k_is)
    (case ti26 => k_is)
    (case l26 => k_is)
    (case c26 => k_is)
    (case k26 => k_is)
    (case ca26 => first | kernel_rfl | rfl | decide +kernel)
    (case nf26_0 => k_is)
    (case nf26_1 => k_is)
    (case a27 => k_is)
    (case ei27 => first | kernel_rfl | rfl | decide +kernel)
    (case eo27 => first | kernel_rfl | rfl | decide +kernel)
    (case sa27 => k_is)
    (case ex27 => k_is)
    (case ty27 => k_is)
    (case kC27 => k_is)
    (case hd27 => k_is)
    (case ga27 => k_is)
    (case gg27 => k_is)
    (case in27 => k_is)
    (case ti27 => k_is)
    (case l27 => k_is)
    (case c27 => k_is)
    (case k27 => k_is)
    (case ca27 => first | kernel_rfl | rfl | decide +kernel)
    (case nf27_0 => k_is)
    (case nf27_1 => k_is)
    (case a28 => k_is)
    (case ei28 => first | kernel_rfl | rfl | decide +kernel)
    (case eo28 => first | kernel_rfl | rfl | decide +kernel)
    (case sa28 => k_is)
    (case ex28 => k_is)
    (case ty28 => k_is)
    (case kC28 => k_is)
    (case hd28 => k_is)
    (case ga28 => k_is)
    (case gg28 => k_is)
    (case in28 => k_is)
    (case ti28 => k_is)
    (case l28 => k_is)
    (case c28 => k_is)
    (case k28 => k_is)
    (case ca28 => first | kernel_rfl | rfl | decide +kernel)
    (case nf28_0 => k_is)
    (case nf28_1 => k_is)
    (case aCT => k_is)
    (case pgT => first | kernel_rfl | rfl | decide +kernel)
    (case hdT => first | kernel_rfl | rfl | decide +kernel)
    (case poT => first | kernel_rfl | rfl | decide +kernel)
    (case saT => k_is)
    (case mkT => first | kernel_rfl | rfl | decide +kernel)
    (case inT => k_is)
    (case fnT => first | kernel_rfl | rfl | decide +kernel)
    (case kpT => k_is)
    (case na_held => k_is)
    (case l29 => k_is)
    (case c29 => k_is)
    (case k29 => k_is)
    (case me30 => k_is)
    (case mf30 => first | kernel_rfl | rfl | decide +kernel)
    (case l30 => k_is)
    (case c30 => k_is)
    (case k30 => k_is)
    (case me31 => k_is)
    (case mf31 => first | kernel_rfl | rfl | decide +kernel)
    (case l31 => k_is)
    (case c31 => k_is)
    (case k31 => k_is)
    (case me32 => k_is)
    (case mf32 => first | kernel_rfl | rfl | decide +kernel)
    (case l32 => k_is)
    (case c32 => k_is)
    (case k32 => k_is)
    (case xL => k_is)
    (case xM => k_is)
    (case z_repr => k_is)
    (case xgMF => k_is)
    (case xgMK => k_is)
