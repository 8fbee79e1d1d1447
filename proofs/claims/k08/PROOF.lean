import PyProof.Rows.All
import Wide.All
import OpenK.AllK
import Wide.FinOn
import Lean
import PyProof.EqAt
import PyProof.EqKinds
import PyProof.TupleCall
import PyProof.EqLayable
import PyProof.DictIter
import PyProof.CollectWalk
import PyProof.Rows.SetFrom
import PyProof.Rows.SortWalk
import PyProof.Walks
import PyProof.WalksS
import PyProof.FactsAll.set_1
import PyProof.DictWalks
import KE.KTryMore
import PyProof.ExcClass3
import PyProof.ExcBaseAll.ValueError
import PyProof.RulesDel
import PyProof.RulesAs
import PyProof.ExcArgsOwn
import PyProof.SetRoads
import PyProof.FString
import PyProof.StrWalks
import PyProof.Rows.StrJoin2
import PyProof.StrLawsTight
import KE.KIntText
import PyProof.Rows.StrNews2
import PyProof.SliceStr2
import PyProof.StrBlockG
import KE.KRevIter
import PyProof.ListStr
import PyProof.TupleKey
import PyProof.EnumFor
import PyProof.EnumStmt
import PyProof.EnumMake
import PyProof.LayNew
import PyProof.Conv_int_bool
import PyProof.Rows.SeqMore2
import KE.KDictOf
import KE.KDictList
import PyProof.DictUpdate
import PyProof.FactsDict
import PyProof.FactsAll.dict_1
import PyProof.FactsAll.dict_2
import PyProof.MeetsSeq
import PyProof.FactsAll.dict_3
import PyProof.FactsAll.dict_4
import PyProof.ListRange
import PySem.Challenge.RW_crownwalk_k08_shows
set_option Elab.async false
set_option linter.all false
set_option maxRecDepth 100000
set_option maxHeartbeats 4000000
namespace CW
open PySem
/-! # the places of a set's table rise -/
abbrev Ris (t : SetTable) : Prop := t.place.toList.Pairwise (· < ·)
theorem ris_lt {xs : Array Nat} (h : xs.toList.Pairwise (· < ·)) {i k : Nat} (hik : i < k) (hk : k < xs.size) : xs[i]'(by omega) < xs[k] := by
  have := (List.pairwise_iff_getElem.mp h) i k (by simpa using (by omega : i < xs.size)) (by simpa using hk) hik
  simpa using this
theorem below_go {xs : Array Nat} (h : xs.toList.Pairwise (· < ·)) (j : Nat) : ∀ (fuel lo hi : Nat), hi - lo ≤ fuel → lo ≤ hi → (hh : hi ≤ xs.size) →
    (∀ i (hi' : i < xs.size), i < lo → xs[i] < j) → (∀ i (hi' : i < xs.size), hi ≤ i → j ≤ xs[i]) →
    SetTable.below.go xs j fuel lo hi ≤ xs.size ∧ (∀ i (hi' : i < xs.size), i < SetTable.below.go xs j fuel lo hi → xs[i] < j) ∧ (∀ i (hi' : i < xs.size), SetTable.below.go xs j fuel lo hi ≤ i → j ≤ xs[i])
  | 0, lo, hi, hf, hl, hh, h1, h2 => by
    have e : lo = hi := by omega
    unfold SetTable.below.go
    exact ⟨by omega, h1, fun i hi' hle => h2 i hi' (by omega)⟩
  | fuel + 1, lo, hi, hf, hl, hh, h1, h2 => by
    unfold SetTable.below.go
    by_cases hlt : lo < hi
    · rw [if_pos hlt]
      have hm1 : lo ≤ (lo + hi) / 2 := by omega
      have hm2 : (lo + hi) / 2 < hi := by omega
      have hm3 : (lo + hi) / 2 < xs.size := by omega
      have eg : xs.getD ((lo + hi) / 2) j = xs[(lo + hi) / 2] := by simp [Array.getD, hm3]
      dsimp only
      rw [eg]
      by_cases hc : xs[(lo + hi) / 2] < j
      · rw [if_pos hc]
        refine below_go h j fuel _ _ (by omega) (by omega) hh (fun i hi' hlt' => ?_) h2
        by_cases e : i = (lo + hi) / 2
        · subst e; exact hc
        · exact Nat.lt_trans (ris_lt h (by omega) hm3) hc
      · rw [if_neg hc]
        refine below_go h j fuel _ _ (by omega) (by omega) (by omega) h1 (fun i hi' hle => ?_)
        by_cases e : i = (lo + hi) / 2
        · subst e; exact Nat.le_of_not_lt hc
        · exact Nat.le_trans (Nat.le_of_not_lt hc) (Nat.le_of_lt (ris_lt h (by omega) hi'))
    · rw [if_neg hlt]
      exact ⟨by omega, h1, fun i hi' hle => h2 i hi' (by omega)⟩
theorem below_spec {xs : Array Nat} (h : xs.toList.Pairwise (· < ·)) (j : Nat) : SetTable.below xs j ≤ xs.size ∧ (∀ i (hi' : i < xs.size), i < SetTable.below xs j → xs[i] < j) ∧ (∀ i (hi' : i < xs.size), SetTable.below xs j ≤ i → j ≤ xs[i]) :=
  below_go h j xs.size 0 xs.size (by omega) (Nat.zero_le _) (Nat.le_refl _) (fun i _ z => by omega) (fun i hi' z => by omega)
/-- where it is not met at its place it is not there -/
theorem ris_insert {xs : Array Nat} (h : xs.toList.Pairwise (· < ·)) {j : Nat} (hn : xs[SetTable.below xs j]? ≠ some j) : (SetTable.insertAt xs (SetTable.below xs j) j).toList.Pairwise (· < ·) := by
  obtain ⟨b0, b1, b2⟩ := below_spec h j
  rw [SetTable.toList_insertAt]
  rw [List.pairwise_append]
  refine ⟨h.sublist (List.take_sublist _ _), ?_, ?_⟩
  · rw [List.pairwise_cons]
    refine ⟨fun y hy => ?_, h.sublist (List.drop_sublist _ _)⟩
    obtain ⟨k, hk, e⟩ := List.mem_iff_getElem.mp hy
    rw [List.getElem_drop] at e
    rw [List.length_drop, Array.length_toList] at hk
    have hks : SetTable.below xs j + k < xs.size := by omega
    have e' : xs[SetTable.below xs j + k] = y := by rw [← e]; simp
    have l1 := b2 _ hks (Nat.le_add_right _ _)
    rw [e'] at l1
    refine Nat.lt_of_le_of_ne l1 fun z => ?_
    subst z
    have hb : SetTable.below xs j < xs.size := by omega
    have l2 := b2 _ hb (Nat.le_refl _)
    by_cases k0 : k = 0
    · subst k0
      exact hn (by rw [Array.getElem?_eq_getElem hb]; exact congrArg some e')
    · have l3 := ris_lt h (show SetTable.below xs j < SetTable.below xs j + k by omega) hks
      rw [e'] at l3
      exact absurd (Nat.lt_of_le_of_lt l2 l3) (Nat.lt_irrefl _)
  · intro y hy z hz
    obtain ⟨k, hk, e⟩ := List.mem_iff_getElem.mp hy
    rw [List.getElem_take] at e
    rw [List.length_take, Array.length_toList] at hk
    have hks : k < xs.size := by omega
    have l1 : y < j := by
      have := b1 k hks (by omega)
      rw [← e]; simpa using this
    rcases List.mem_cons.mp hz with rfl | hz
    · exact l1
    · obtain ⟨i, hi, e2⟩ := List.mem_iff_getElem.mp hz
      rw [List.getElem_drop] at e2
      rw [List.length_drop, Array.length_toList] at hi
      have hks2 : SetTable.below xs j + i < xs.size := by omega
      have := b2 _ hks2 (Nat.le_add_right _ _)
      have e3 : xs[SetTable.below xs j + i] = z := by rw [← e2]; simp
      omega
def Off (t : SetTable) (j : Nat) : Prop := t.place[SetTable.below t.place j]? ≠ some j
theorem slot_off {t : SetTable} {j : Nat} (h : t.slot j = .empty ∨ t.slot j = .dummy) : Off t j := by
  intro e
  have : t.slot j = .live (SetTable.below t.place j) := by
    unfold SetTable.slot
    simp [e]
  rw [this] at h
  rcases h with h | h <;> cases h
theorem advance_dummy (t : SetTable) (p : SetTable.Probe) : (t.advance p).dummy = p.dummy := by
  unfold SetTable.advance
  split
  · rfl
  · dsimp only
theorem probe_off {t : SetTable} {hashAt : Nat → Int} {h : Int} : ∀ (fuel : Nat) (p : SetTable.Probe) {j : Nat} {d : Option Nat}, (∀ k, p.dummy = some k → Off t k) → SetTable.probe.go t hashAt h fuel p = some (.empty j d) → Off t j ∧ ∀ k, d = some k → Off t k
  | 0, p, j, d, hp, e => by unfold SetTable.probe.go at e; cases e
  | fuel + 1, p, j, d, hp, e => by
    unfold SetTable.probe.go at e
    cases hs : t.slot p.j with
    | empty =>
      rw [hs] at e
      simp only [Option.some.injEq, SetTable.Met.empty.injEq] at e
      obtain ⟨rfl, rfl⟩ := e
      exact ⟨slot_off (.inl hs), hp⟩
    | dummy =>
      rw [hs] at e
      refine probe_off fuel _ (fun k hk => ?_) e
      rw [advance_dummy] at hk
      simp only [Option.some.injEq] at hk
      subst hk
      exact slot_off (.inr hs)
    | live i =>
      rw [hs] at e
      dsimp only at e
      split at e
      · cases e
      · exact probe_off fuel _ (fun k hk => hp k (by rw [advance_dummy] at hk; exact hk)) e
theorem freeSlot_off {t : SetTable} {h : Int} {j : Nat} {b : Bool} (e : t.freeSlot h = some (j, b)) : Off t j := by
  unfold SetTable.freeSlot at e
  split at e
  · rename_i j' d hp
    have := probe_off _ _ (fun k hk => by simp [SetTable.probeStart] at hk) hp
    simp only [Option.some.injEq, Prod.mk.injEq] at e
    obtain ⟨e1, _⟩ := e
    cases d with
    | none => simp at e1; subst e1; exact this.1
    | some k => simp at e1; subst e1; exact this.2 k rfl
  · cases e
theorem standIn_ris (t : SetTable) (n : Nat) : Ris (t.standIn n) := by
  unfold Ris SetTable.standIn
  simpa using List.pairwise_lt_range
theorem orStandIn_ris {t : SetTable} {n : Nat} (h : Ris t) : Ris (t.orStandIn n) := by
  unfold SetTable.orStandIn
  split
  · exact h
  · exact standIn_ris t n
theorem orStandIn_led (t : SetTable) (n : Nat) : (t.orStandIn n).led = t.led := by
  unfold SetTable.orStandIn
  split <;> rfl
theorem layNew_tab (t : SetTable) (es : Array (Int × Value)) (h : Int) (x : Value) (hr : Ris t) : Ris (layNew t es h x).2.1 ∧ (layNew t es h x).2.1.led = t.led := by
  unfold layNew
  cases e : t.freeSlot h with
  | none => exact ⟨standIn_ris _ _, rfl⟩
  | some q =>
    obtain ⟨j, b⟩ := q
    dsimp only
    refine ⟨orStandIn_ris ?_, by rw [orStandIn_led]; rfl⟩
    exact ris_insert hr (freeSlot_off e)
theorem laid_tab {mask finger moves : Nat} {led plain : Bool} {hs : Array Int} {t : SetTable} {o : Array Nat} (e : SetTable.laid mask finger moves led plain hs = some (t, o)) : Ris t ∧ t.led = led := by
  unfold SetTable.laid at e
  cases hc : SetTable.layClean mask hs with
  | none => rw [hc] at e; cases e
  | some owner =>
    rw [hc] at e
    simp only [Option.bind_eq_bind, Option.bind_some, Option.pure_def, Option.some.injEq, Prod.mk.injEq] at e
    obtain ⟨rfl, _⟩ := e
    refine ⟨?_, rfl⟩
    unfold Ris
    simp only [List.map_filterMap]
    rw [List.pairwise_filterMap]
    refine List.Pairwise.imp ?_ (List.pairwise_lt_range (n := mask + 1))
    intro a b hab x hx y hy
    simp only [Option.map_map, Option.mem_def, Option.map_eq_some_iff] at hx hy
    obtain ⟨_, _, rfl⟩ := hx
    obtain ⟨_, _, rfl⟩ := hy
    exact hab
theorem relayAll_tab (t : SetTable) (es : Array (Int × Value)) (wanted : Nat) : Ris (relayAll t es wanted).2.1 ∧ (relayAll t es wanted).2.1.led = t.led := by
  unfold relayAll
  cases e : t.relaid (es.map (·.1)) wanted with
  | none => exact ⟨standIn_ris _ _, rfl⟩
  | some q =>
    obtain ⟨t', o⟩ := q
    dsimp only
    have := laid_tab (by unfold SetTable.relaid at e; exact e)
    split
    · exact this
    · exact ⟨standIn_ris _ _, rfl⟩
/-! # orders -/
theorem cons_erase {α : Type} {l : List α} {i : Nat} (h : i < l.length) : List.Perm (l[i] :: l.eraseIdx i) l := by
  rw [List.eraseIdx_eq_take_drop_succ]
  have e : l = l.take i ++ l[i] :: l.drop (i + 1) := by
    rw [← List.drop_eq_getElem_cons h, List.take_append_drop]
  have p : List.Perm (l.take i ++ l[i] :: l.drop (i + 1)) (l[i] :: (l.take i ++ l.drop (i + 1))) := List.perm_middle
  exact p.symm.trans (by rw [← e])
theorem pickOrder_go {α : Type} (next : Nat → Nat) : ∀ (fuel k : Nat) (left : List α) (out : Array α), fuel = left.length → List.Perm (pickOrder.go next fuel k left out).toList (out.toList ++ left)
  | 0, k, left, out, e => by
    have : left = [] := List.length_eq_zero_iff.mp e.symm
    subst this
    unfold pickOrder.go
    simp
  | fuel + 1, k, left, out, e => by
    unfold pickOrder.go
    have hp : 0 < left.length := by omega
    have hm : next k % left.length < left.length := Nat.mod_lt _ hp
    rw [List.getElem?_eq_getElem hm]
    dsimp only
    refine (pickOrder_go next fuel (k + 1) _ _ (by rw [List.length_eraseIdx_of_lt hm]; omega)).trans ?_
    rw [Array.toList_push, List.append_assoc]
    refine List.Perm.append_left _ ?_
    show List.Perm (left[next k % left.length] :: left.eraseIdx (next k % left.length)) left
    exact cons_erase hm
theorem pickOrder_perm {α : Type} (next : Nat → Nat) (xs : Array α) : List.Perm (pickOrder next xs).toList xs.toList := by
  unfold pickOrder
  have := pickOrder_go next xs.size 0 xs.toList #[] (by simp)
  simpa using this
end CW

namespace CW
open PySem
theorem si_next : Slot "set_iterator" "__next__" "set_iterator.__next__" := by
  refine .of (owner := "set_iterator") (n := "__next__") ?_ ?_ ?_ ?_ ?_ ?_
  · rw [typeLookup_type, builtinLookup_eq_fast]; kernel_rfl
  · decide +kernel
  · decide +kernel
  · decide +kernel
  · first | exact .inl (by decide +kernel) | exact .inr (by decide +kernel)
  · rw [isSubtype_type]; kernel_rfl
theorem si_iter : Slot "set_iterator" "__iter__" "set_iterator.__iter__" := by
  refine .of (owner := "set_iterator") (n := "__iter__") ?_ ?_ ?_ ?_ ?_ ?_
  · rw [typeLookup_type, builtinLookup_eq_fast]; kernel_rfl
  · decide +kernel
  · decide +kernel
  · decide +kernel
  · first | exact .inl (by decide +kernel) | exact .inr (by decide +kernel)
  · rw [isSubtype_type]; kernel_rfl
theorem si_owner : Manifest.owners.lookup (String.ofList "set_iterator".toList.reverse.reverse) = some Manifest.sig_set_iterator := by kernel_rfl
theorem si_next_ok (a : Value) : argsOk "set_iterator.__next__" ⟨[a], []⟩ := by
  unfold argsOk
  rw [signature?_of (id := "set_iterator.__next__") (n := "__next__".toList.reverse) (o := "set_iterator".toList.reverse) (by kernel_rfl) si_owner]
  kernel_rfl
theorem si_iter_ok (a : Value) : argsOk "set_iterator.__iter__" ⟨[a], []⟩ := by
  unfold argsOk
  rw [signature?_of (id := "set_iterator.__iter__") (n := "__iter__".toList.reverse) (o := "set_iterator".toList.reverse) (by kernel_rfl) si_owner]
  kernel_rfl
theorem si_next_entry : entryFor table "set_iterator.__next__" = some Builtin.«set_iterator.__next__» := entryFor_of_tree (by kernel_rfl)
theorem si_iter_entry : entryFor table "set_iterator.__iter__" = some Builtin.«dict_keyiterator.__iter__» :=
  entryFor_alias (id' := "dict_keyiterator.__iter__") (by kernel_rfl) rfl (by decide +kernel) (by kernel_rfl)
theorem set_iter_entry : entryFor table "set.__iter__" = some Builtin.«frozenset.__iter__» :=
  entryFor_alias (id' := "frozenset.__iter__") (by kernel_rfl) rfl (by decide +kernel) (by kernel_rfl)
theorem set_lookup_len : typeLookup (.type "set") "__len__" = pure (some (.builtin "set.__len__")) := by rw [typeLookup_type, builtinLookup_eq_fast]; kernel_rfl
end CW

namespace CW
open PySem
/-! # a set of ints, walked -/
def IsSI (h : Heap) (I S : Addr) (f : Value) (i n ep : Nat) : Prop :=
  ∃ o, h.get? I = some o ∧ o.cls = .type "set_iterator" ∧ o.data = .fields #[f, .int i 0, .ref S, .int n 0, .int ep 0]
theorem IsSI.ty {s : Shared} {I S : Addr} {f : Value} {i n ep : Nat} (x : IsSI s.heap I S f i n ep) : s.TypeIs (.ref I) "set_iterator" := let ⟨o, ho, hc, _⟩ := x; ⟨o, ho, hc⟩
theorem IsSI.at {h h' : Heap} {I S : Addr} {f : Value} {i n ep : Nat} (x : IsSI h I S f i n ep) (e : ∀ o, h.get? I = some o → h'.get? I = some o) : IsSI h' I S f i n ep := let ⟨o, ho, r⟩ := x; ⟨o, e _ ho, r⟩
def SetAt (h : Heap) (S : Addr) (es : Array (Int × Value)) (ep : Nat) (t : SetTable) : Prop := ∃ o, h.get? S = some o ∧ o.ExactSet ∧ o.data = .set es ep t
theorem SetAt.at {h h' : Heap} {S : Addr} {es : Array (Int × Value)} {ep : Nat} {t : SetTable} (x : SetAt h S es ep t) (e : ∀ o, h.get? S = some o → h'.get? S = some o) : SetAt h' S es ep t := let ⟨o, ho, r⟩ := x; ⟨o, e _ ho, r⟩
section
variable {prog : Program} {w : World} {A : Around} {E : Value → Shared → Prop} {s : Shared} {I S : Addr} {es : Array (Int × Value)} {ep : Nat} {t : SetTable}
/-- what stands next, without a change -/
def Nxt (prog : Program) (w : World) (s : Shared) (S : Addr) (f i ep : Nat) (r : Option (Value × Nat)) : Prop :=
  ∀ (A : Around) (E : Value → Shared → Prop) (Q : Option (Value × Nat) → Shared → Prop), Q r s → wpAny (model prog w) A (setNext S f i ep) Q E s
theorem si_item {f f' i : Nat} {x : Value} {Q : Option Value → Shared → Prop} (hit : IsSI s.heap I S (.int f 0) i es.size ep) (hS : SetAt s.heap S es ep t) (hf : t.fits es.size = true)
    (hn : Nxt prog w s S f i ep (some (x, f'))) (hQ : ∀ h', IsSI h' I S (.int f' 0) (i + 1) es.size ep → Heap.SameBut I s.heap h' → Q (some x) { s with heap := h' }) :
    wpAny (model prog w) A (pyNext (.ref I)) Q E s := by
  obtain ⟨o, ho, hc, hd⟩ := id hit
  obtain ⟨oS, hoS, hx, hdS⟩ := id hS
  unfold pyNext
  refine wpAny_bind (wpAny_attempt (wpAny_callSpecial?_slot (name := Str.ofString "__next__") hit.ty si_next (wpAny_call_entry si_next hit.ty si_next_entry ?_ (si_next_ok _))))
  unfold Builtin.«set_iterator.__next__»
  refine wpAny_bind (wpAny_pure ?_)
  refine wpAny_bind (wpAny_fieldsOf ho hd ?_)
  show wpAny _ _ (setEntries S >>= _) _ _ s
  refine wpAny_bind (wpAny_setEntries_of hoS hdS hf ?_)
  rw [if_neg (by simp)]
  show wpAny _ _ (setNext S f i ep >>= _) _ _ s
  refine wpAny_bind (hn _ _ _ ?_)
  show wpAny _ _ (setField (.ref I) 0 (rawInt f') >>= _) _ _ s
  refine wpAny_bind (wpAny_setField ho hd (by simp) ?_)
  have g1 : (s.heap.update I (Obj.mapFields (·.setIfInBounds 0 (rawInt f')))).get? I = some (Obj.mapFields (·.setIfInBounds 0 (rawInt f')) o) := Heap.get?_update_self _ ho (Obj.isFreed_of_fields (Obj.data_mapFields hd _))
  have d1 := Obj.data_mapFields hd (·.setIfInBounds 0 (rawInt f'))
  show wpAny _ _ (setField (.ref I) 1 (rawInt ((i : Int) + 1)) >>= _) _ _ _
  refine wpAny_bind (wpAny_setField g1 d1 (by simp) ?_)
  have d2 := Obj.data_mapFields d1 (·.setIfInBounds 1 (rawInt ((i : Int) + 1)))
  have g2 := Heap.get?_update_self (Obj.mapFields (·.setIfInBounds 1 (rawInt ((i : Int) + 1)))) g1 (Obj.isFreed_of_fields d2)
  refine wpAny_pure ⟨_, rfl, wpAny_pure (hQ _ ⟨_, g2, ?_, ?_⟩ ?_)⟩
  · exact ((Obj.cls_mapFields ..).trans (Obj.cls_mapFields ..)).trans hc
  · rw [d2]; simp [rawInt]
  · exact (Heap.SameBut.update ..).trans (Heap.SameBut.update ..)
/-- the last raise: StopIteration -/
theorem si_stop {Q : Option Value → Shared → Prop} {A : Around} (hh : A.handled = none) {h1 : Heap} (hQ : ∀ h', (∀ b o, h1.get? b = some o → h'.get? b = some o) → Q none { s with heap := h' }) :
    wpAny (model prog w) A.in1 (newExc (.type "StopIteration") [] >>= fun e => (raiseNew e : Sem Fin)) (fun _ _ => False) (fun e s' => wpAny (model prog w) A (isInstance e (.type "StopIteration") >>= fun b => if b = true then pure none else throw e) Q E s') { s with heap := h1 } := by
  refine wpAny_bind ?_
  simp only [newExc, newTuple]
  refine wpAny_bind (wpAny_newObj_type ?_ (by size_fits))
  refine wpAny_bind (m := firstArgMember _ _) (wpAny_of_eq (a := Value.none) (by first | rfl | (simp only [firstArgMember]; rfl)) ?_)
  refine wpAny_newObj_type ?_ (by size_fits)
  simp only [raiseNew]
  refine wpAny_bind (wpAny_handled ?_)
  rw [show A.in1.handled = none from hh]
  refine wpAny_bind (wpAny_pure (wpAny_throw ?_))
  refine wpAny_bind (wpAny_isInstance (T := "StopIteration") (b := true) ⟨_, Heap.get?_push_size _ rfl, rfl⟩ isSubtype_stop ?_)
  exact wpAny_pure (hQ _ fun b o e => Heap.get?_push_of_some _ (Heap.get?_push_of_some _ e))
theorem si_done {f i : Nat} {Q : Option Value → Shared → Prop} (hh : A.handled = none) (hit : IsSI s.heap I S (.int f 0) i es.size ep) (hS : SetAt s.heap S es ep t) (hf : t.fits es.size = true)
    (hn : Nxt prog w s S f i ep none) (hQ : ∀ h', (∀ b o, b ≠ I → s.heap.get? b = some o → h'.get? b = some o) → Q none { s with heap := h' }) :
    wpAny (model prog w) A (pyNext (.ref I)) Q E s := by
  obtain ⟨o, ho, hc, hd⟩ := id hit
  obtain ⟨oS, hoS, hx, hdS⟩ := id hS
  unfold pyNext
  refine wpAny_bind (wpAny_attempt (wpAny_callSpecial?_slot (name := Str.ofString "__next__") hit.ty si_next (wpAny_call_entry si_next hit.ty si_next_entry ?_ (si_next_ok _))))
  unfold Builtin.«set_iterator.__next__»
  refine wpAny_bind (wpAny_pure ?_)
  refine wpAny_bind (wpAny_fieldsOf ho hd ?_)
  show wpAny _ _ (setEntries S >>= _) _ _ s
  refine wpAny_bind (wpAny_setEntries_of hoS hdS hf ?_)
  rw [if_neg (by simp)]
  show wpAny _ _ (setNext S f i ep >>= _) _ _ s
  refine wpAny_bind (hn _ _ _ ?_)
  show wpAny _ _ (setField (.ref I) 2 .none >>= _) _ _ s
  refine wpAny_bind (wpAny_setField ho hd (by simp) ?_)
  refine wpAny_mono (si_stop (s := s) (E := E) hh (h1 := s.heap.update I (Obj.mapFields (·.setIfInBounds 2 .none))) fun h' hk => hQ h' fun b o hb e => hk b o ((Heap.get?_update_other _ _ (Ne.symm hb)).trans e)) (fun _ _ z => z.elim) fun _ _ z => z
end
end CW

namespace CW
open PySem
section
variable {prog : Program} {w : World} {A : Around} {E : Value → Shared → Prop} {s : Shared} {I S : Addr} {es : Array (Int × Value)} {ep : Nat} {t : SetTable}
theorem byText {Q : Bool → Shared → Prop} (h : Q (w.params.followText "set-order") s) : wpAny (model prog w) A setsByText Q E s := by
  unfold setsByText
  exact wpAny_bind (wpAny_askSetting (wpAny_pure h))
theorem setNext_eq (S : Addr) (f i e : Nat) : setNext S f i e = (setState S >>= fun q => setsByText >>= fun b =>
    if b = true then (if (q.2.1 != e) = true then (unsupported "set_iterator.__next__:elements-changed" >>= fun (_ : PUnit) => setWalk S >>= fun z => pure ((z[i]?).map fun e => (e.2, f))) else (setWalk S >>= fun z => pure ((z[i]?).map fun e => (e.2, f))))
    else (if (!q.2.2.plain && decide (q.1.size > 1)) = true then (unsupported "set_iterator.__next__:the-table-is-plain-no-more" >>= fun (_ : PUnit) => (if (!q.2.2.led && !q.1.isEmpty) = true then unsupported "set:maker-not-led" else pure ()) >>= fun (_ : Unit) =>
        pure (match q.1[SetTable.below q.2.2.place f]?, q.2.2.place[SetTable.below q.2.2.place f]? with | some (_, x), some j => some (x, j + 1) | _, _ => none))
      else ((if (!q.2.2.led && !q.1.isEmpty) = true then unsupported "set:maker-not-led" else pure ()) >>= fun (_ : Unit) =>
        pure (match q.1[SetTable.below q.2.2.place f]?, q.2.2.place[SetTable.below q.2.2.place f]? with | some (_, x), some j => some (x, j + 1) | _, _ => none)))) := by
  rfl
theorem setWalk_eq (S : Addr) : setWalk S = (setState S >>= fun q => setsByText >>= fun b =>
    if b = true then (ask >>= fun z => pure (pickOrder (z.params.setOrder S q.2.1) q.1)) else
    if (!q.2.2.plain && decide (q.1.size > 1)) = true then (drawOrder q.1.size q.1.toList >>= fun l => pure l.toArray) else
    ((if (!q.2.2.led && decide (q.1.size > 1)) = true then unsupported "set:maker-not-led" else pure ()) >>= fun (_ : Unit) => pure q.1)) := by
  rfl
theorem nxt_text (ht : w.params.followText "set-order" = true) (hS : SetAt s.heap S es ep t) (hf : t.fits es.size = true) (f i : Nat) :
    Nxt prog w s S f i ep (((pickOrder (w.params.setOrder S ep) es)[i]?).map fun e => (e.2, f)) := by
  intro A E Q hQ
  obtain ⟨oS, hoS, hx, hdS⟩ := hS
  rw [setNext_eq]
  refine wpAny_bind (wpAny_setState_of hoS hdS hf (wpAny_bind (byText ?_)))
  rw [ht, if_pos rfl, if_neg (by simp), setWalk_eq]
  refine wpAny_bind (wpAny_bind (wpAny_setState_of hoS hdS hf (wpAny_bind (byText ?_))))
  rw [ht, if_pos rfl]
  exact wpAny_bind (wpAny_askSetting (wpAny_pure (wpAny_pure hQ)))
theorem nxt_plain (ht : w.params.followText "set-order" = false) (hS : SetAt s.heap S es ep t) (hf : t.fits es.size = true) (hl : t.led = true) (hp : (!t.plain && decide (es.size > 1)) = false) (f i : Nat) :
    Nxt prog w s S f i ep (match es[SetTable.below t.place f]?, t.place[SetTable.below t.place f]? with | some (_, x), some j => some (x, j + 1) | _, _ => none) := by
  intro A E Q hQ
  obtain ⟨oS, hoS, hx, hdS⟩ := hS
  rw [setNext_eq]
  refine wpAny_bind (wpAny_setState_of hoS hdS hf (wpAny_bind (byText ?_)))
  rw [ht, if_neg (by simp)]
  dsimp only
  rw [if_neg (by rw [hp]; simp), if_neg (by rw [hl]; simp)]
  exact wpAny_bind (wpAny_pure (wpAny_pure hQ))
end
/-- the place's step: below place (place[i-1] + 1) = i -/
def slotAt (t : SetTable) (i : Nat) : Nat := if i = 0 then 0 else t.place.getD (i - 1) 0 + 1
theorem below_slotAt {t : SetTable} (hr : Ris t) {i : Nat} (hi : i ≤ t.place.size) : SetTable.below t.place (slotAt t i) = i := by
  obtain ⟨b0, b1, b2⟩ := below_spec hr (slotAt t i)
  rcases Nat.lt_trichotomy (SetTable.below t.place (slotAt t i)) i with h | h | h
  · exfalso
    have h1 := b2 _ (by omega) (Nat.le_refl _)
    have hi1 : i - 1 < t.place.size := by omega
    have e : slotAt t i = t.place[i - 1] + 1 := by unfold slotAt; rw [if_neg (by omega)]; simp [Array.getD, hi1]
    have h3 := b2 (i - 1) hi1 (by omega)
    omega
  · exact h
  · exfalso
    have hlt : i < t.place.size := by omega
    have h1 := b1 i hlt h
    by_cases i0 : i = 0
    · subst i0; simp [slotAt] at h1
    · have hi1 : i - 1 < t.place.size := by omega
      have e : slotAt t i = t.place[i - 1] + 1 := by unfold slotAt; rw [if_neg i0]; simp [Array.getD, hi1]
      have := ris_lt hr (show i - 1 < i by omega) hlt
      omega
section
variable {prog : Program} {w : World} {A : Around}
theorem walks_text (hh : A.handled = none) (ht : w.params.followText "set-order" = true) (I S : Addr) (hne : S ≠ I) (es : Array (Int × Value)) (ep : Nat) (t : SetTable) (hf : t.fits es.size = true) :
    Walks prog w A I [I, S] [I] es.size (fun i v => ((pickOrder (w.params.setOrder S ep) es).toList.map (·.2))[i]? = some v) (fun i h => IsSI h I S (.int 0 0) i es.size ep ∧ SetAt h S es ep t) where
  sub := fun b hb => by simp at hb; simp [hb]
  frame := fun _ _ _ st hk => ⟨st.1.at fun o e => hk I (by simp) o e, st.2.at fun o e => hk S (by simp) o e⟩
  item := fun i s Q E hi st hQ => by
    have hz : (pickOrder (w.params.setOrder S ep) es).size = es.size := by
      have := (pickOrder_perm (w.params.setOrder S ep) es).length_eq
      simpa using this
    have hlt : i < (pickOrder (w.params.setOrder S ep) es).size := by omega
    have hn := nxt_text (prog := prog) ht st.2 hf 0 i
    rw [Array.getElem?_eq_getElem hlt] at hn
    refine si_item (f := 0) (f' := 0) st.1 st.2 hf hn fun h' hit hs => ?_
    refine hQ _ h' s.toks ?_ ⟨hit, st.2.at fun o e => hs.extBut S o hne e⟩ fun b o hb e => hs.extBut b o (fun z => hb (by simp [z])) e
    simp [hlt]
  done := fun s Q E st hQ => by
    have hz : (pickOrder (w.params.setOrder S ep) es).size = es.size := by
      have := (pickOrder_perm (w.params.setOrder S ep) es).length_eq
      simpa using this
    have hn := nxt_text (prog := prog) ht st.2 hf 0 es.size
    rw [Array.getElem?_eq_none (by omega)] at hn
    exact si_done (f := 0) hh st.1 st.2 hf hn fun h' hk => hQ h' s.toks fun b o hb e => hk b o (fun z => hb (by simp [z])) e
  self := fun _ s Q E st hQ => by
    refine wpAny_pyIter_slot st.1.ty si_iter (wpAny_call_entry si_iter st.1.ty si_iter_entry ?_ (si_iter_ok _))
    show wpAny _ _ (ret (.ref I)) _ _ s
    exact wpAny_pure ⟨_, rfl, "set_iterator", _, st.1.ty, si_next.lookup, hQ⟩
theorem walks_plain (hh : A.handled = none) (ht : w.params.followText "set-order" = false) (I S : Addr) (hne : S ≠ I) (es : Array (Int × Value)) (ep : Nat) (t : SetTable) (hf : t.fits es.size = true) (hr : Ris t) (hl : t.led = true)
    (hp : (!t.plain && decide (es.size > 1)) = false) :
    Walks prog w A I [I, S] [I] es.size (fun i v => (es.toList.map (·.2))[i]? = some v) (fun i h => IsSI h I S (.int (slotAt t i : Nat) 0) i es.size ep ∧ SetAt h S es ep t) where
  sub := fun b hb => by simp at hb; simp [hb]
  frame := fun _ _ _ st hk => ⟨st.1.at fun o e => hk I (by simp) o e, st.2.at fun o e => hk S (by simp) o e⟩
  item := fun i s Q E hi st hQ => by
    have hz : t.place.size = es.size := by
      unfold SetTable.fits at hf
      simp only [Bool.and_eq_true, beq_iff_eq] at hf
      exact hf.1
    have hn := nxt_plain (prog := prog) ht st.2 hf hl hp (slotAt t i) i
    rw [below_slotAt hr (by omega), Array.getElem?_eq_getElem hi, Array.getElem?_eq_getElem (show i < t.place.size by omega)] at hn
    dsimp only at hn
    refine si_item (f := slotAt t i) (f' := t.place[i] + 1) st.1 st.2 hf hn fun h' hit hs => ?_
    refine hQ _ h' s.toks ?_ ⟨?_, st.2.at fun o e => hs.extBut S o hne e⟩ fun b o hb e => hs.extBut b o (fun z => hb (by simp [z])) e
    · simp [hi]
    · have e : slotAt t (i + 1) = t.place[i] + 1 := by unfold slotAt; rw [if_neg (by omega)]; simp [Array.getD, show i < t.place.size by omega]
      rw [e]; exact hit
  done := fun s Q E st hQ => by
    have hz : t.place.size = es.size := by
      unfold SetTable.fits at hf
      simp only [Bool.and_eq_true, beq_iff_eq] at hf
      exact hf.1
    have hn := nxt_plain (prog := prog) ht st.2 hf hl hp (slotAt t es.size) es.size
    rw [below_slotAt hr (by omega), Array.getElem?_eq_none (Nat.le_refl _)] at hn
    exact si_done (f := slotAt t es.size) hh st.1 st.2 hf hn fun h' hk => hQ h' s.toks fun b o hb e => hk b o (fun z => hb (by simp [z])) e
  self := fun _ s Q E st hQ => by
    refine wpAny_pyIter_slot st.1.ty si_iter (wpAny_call_entry si_iter st.1.ty si_iter_entry ?_ (si_iter_ok _))
    show wpAny _ _ (ret (.ref I)) _ _ s
    exact wpAny_pure ⟨_, rfl, "set_iterator", _, st.1.ty, si_next.lookup, hQ⟩
end
/-! # drawn: the iterator bears a tuple of places -/
section
variable {prog : Program} {w : World} {A : Around} {E : Value → Shared → Prop} {s : Shared} {I S T : Addr} {es : Array (Int × Value)} {ep : Nat} {t : SetTable} {ps : List Nat}
def TupAt (h : Heap) (T : Addr) (ps : List Nat) : Prop := ∃ o n, h.get? T = some o ∧ o.data = .seq (ps.map fun (i : Nat) => Value.int i 0).toArray n
theorem TupAt.at {h h' : Heap} (x : TupAt h T ps) (e : ∀ o, h.get? T = some o → h'.get? T = some o) : TupAt h' T ps := let ⟨o, n, ho, r⟩ := x; ⟨o, n, e _ ho, r⟩
theorem sd_item {i p : Nat} {q : Int × Value} {Q : Option Value → Shared → Prop} (hit : IsSI s.heap I S (.ref T) i es.size ep) (hS : SetAt s.heap S es ep t) (hT : TupAt s.heap T ps) (hf : t.fits es.size = true)
    (hp : ps[i]? = some p) (hq : es[p]? = some q) (hQ : ∀ h', IsSI h' I S (.ref T) (i + 1) es.size ep → Heap.SameBut I s.heap h' → Q (some q.2) { s with heap := h' }) :
    wpAny (model prog w) A (pyNext (.ref I)) Q E s := by
  obtain ⟨o, ho, hc, hd⟩ := id hit
  obtain ⟨oS, hoS, hx, hdS⟩ := id hS
  obtain ⟨oT, nT, hoT, hdT⟩ := id hT
  unfold pyNext
  refine wpAny_bind (wpAny_attempt (wpAny_callSpecial?_slot (name := Str.ofString "__next__") hit.ty si_next (wpAny_call_entry si_next hit.ty si_next_entry ?_ (si_next_ok _))))
  unfold Builtin.«set_iterator.__next__»
  refine wpAny_bind (wpAny_pure ?_)
  refine wpAny_bind (wpAny_fieldsOf ho hd ?_)
  show wpAny _ _ (setEntries S >>= _) _ _ s
  refine wpAny_bind (wpAny_setEntries_of hoS hdS hf ?_)
  rw [if_neg (by simp)]
  show wpAny _ _ (seqItems? (.ref T) >>= _) _ _ s
  refine wpAny_bind (wpAny_seqItems hoT hdT ?_)
  have e1 : (ps.map fun (i : Nat) => Value.int i 0).toArray[((i : Nat) : Int).toNat]? = some (.int (p : Nat) 0) := by
    simp [hp]
  dsimp only
  rw [e1]
  show wpAny _ _ (setNextDrawn S p ep >>= _) _ _ s
  refine wpAny_bind ?_
  unfold setNextDrawn
  refine wpAny_bind (wpAny_setState_of hoS hdS hf ?_)
  dsimp only
  rw [if_neg (by simp), hq]
  refine wpAny_pure ?_
  show wpAny _ _ (setField (.ref I) 1 (rawInt ((i : Int) + 1)) >>= _) _ _ _
  refine wpAny_bind (wpAny_setField ho hd (by simp) ?_)
  have d2 := Obj.data_mapFields hd (·.setIfInBounds 1 (rawInt ((i : Int) + 1)))
  have g2 := Heap.get?_update_self (Obj.mapFields (·.setIfInBounds 1 (rawInt ((i : Int) + 1)))) ho (Obj.isFreed_of_fields d2)
  refine wpAny_pure ⟨_, rfl, wpAny_pure (hQ _ ⟨_, g2, ?_, ?_⟩ ?_)⟩
  · exact (Obj.cls_mapFields ..).trans hc
  · rw [d2]; simp [rawInt]
  · exact Heap.SameBut.update ..
theorem sd_done {i : Nat} {Q : Option Value → Shared → Prop} (hh : A.handled = none) (hit : IsSI s.heap I S (.ref T) i es.size ep) (hS : SetAt s.heap S es ep t) (hT : TupAt s.heap T ps) (hf : t.fits es.size = true)
    (hp : ps[i]? = none) (hQ : ∀ h', (∀ b o, b ≠ I → s.heap.get? b = some o → h'.get? b = some o) → Q none { s with heap := h' }) :
    wpAny (model prog w) A (pyNext (.ref I)) Q E s := by
  obtain ⟨o, ho, hc, hd⟩ := id hit
  obtain ⟨oS, hoS, hx, hdS⟩ := id hS
  obtain ⟨oT, nT, hoT, hdT⟩ := id hT
  unfold pyNext
  refine wpAny_bind (wpAny_attempt (wpAny_callSpecial?_slot (name := Str.ofString "__next__") hit.ty si_next (wpAny_call_entry si_next hit.ty si_next_entry ?_ (si_next_ok _))))
  unfold Builtin.«set_iterator.__next__»
  refine wpAny_bind (wpAny_pure ?_)
  refine wpAny_bind (wpAny_fieldsOf ho hd ?_)
  show wpAny _ _ (setEntries S >>= _) _ _ s
  refine wpAny_bind (wpAny_setEntries_of hoS hdS hf ?_)
  rw [if_neg (by simp)]
  show wpAny _ _ (seqItems? (.ref T) >>= _) _ _ s
  refine wpAny_bind (wpAny_seqItems hoT hdT ?_)
  have e1 : (ps.map fun (i : Nat) => Value.int i 0).toArray[((i : Nat) : Int).toNat]? = none := by
    simp only [Int.toNat_natCast, List.getElem?_toArray, List.getElem?_map, hp, Option.map_none]
  dsimp only
  rw [e1]
  show wpAny _ _ (setField (.ref I) 0 (rawInt 0) >>= _) _ _ _
  refine wpAny_bind (wpAny_setField ho hd (by simp) ?_)
  have d2 := Obj.data_mapFields hd (·.setIfInBounds 0 (rawInt 0))
  have g2 := Heap.get?_update_self (Obj.mapFields (·.setIfInBounds 0 (rawInt 0))) ho (Obj.isFreed_of_fields d2)
  show wpAny _ _ (setField (.ref I) 2 .none >>= _) _ _ _
  refine wpAny_bind (wpAny_setField g2 d2 (by simp) ?_)
  refine wpAny_mono (si_stop (s := s) (E := E) hh (h1 := (s.heap.update I (Obj.mapFields (·.setIfInBounds 0 (rawInt 0)))).update I (Obj.mapFields (·.setIfInBounds 2 .none))) fun h' hk => hQ h' fun b o hb e =>
    hk b o ((Heap.get?_update_other _ _ (Ne.symm hb)).trans ((Heap.get?_update_other _ _ (Ne.symm hb)).trans e))) (fun _ _ z => z.elim) fun _ _ z => z
theorem walks_drawn (hh : A.handled = none) (I S T : Addr) (hne : S ≠ I) (hnT : T ≠ I) (es : Array (Int × Value)) (ep : Nat) (t : SetTable) (hf : t.fits es.size = true) (ps : List Nat) (hps : List.Perm ps (List.range es.size)) :
    Walks prog w A I [I, S, T] [I] es.size (fun i v => (ps.filterMap fun p => es[p]?.map (·.2))[i]? = some v) (fun i h => IsSI h I S (.ref T) i es.size ep ∧ SetAt h S es ep t ∧ TupAt h T ps) where
  sub := fun b hb => by simp at hb; simp [hb]
  frame := fun _ _ _ st hk => ⟨st.1.at fun o e => hk I (by simp) o e, st.2.1.at fun o e => hk S (by simp) o e, st.2.2.at fun o e => hk T (by simp) o e⟩
  item := fun i s Q E hi st hQ => by
    have hl : ps.length = es.size := by rw [hps.length_eq, List.length_range]
    have hlt : i < ps.length := by omega
    have hm : ps[i] < es.size := by
      have := hps.mem_iff.mp (List.getElem_mem hlt)
      simpa using this
    refine sd_item (p := ps[i]) (q := es[ps[i]]) st.1 st.2.1 st.2.2 hf (List.getElem?_eq_getElem hlt) (Array.getElem?_eq_getElem hm) fun h' hit hs => ?_
    refine hQ _ h' s.toks ?_ ⟨hit, st.2.1.at fun o e => hs.extBut S o hne e, st.2.2.at fun o e => hs.extBut T o hnT e⟩ fun b o hb e => hs.extBut b o (fun z => hb (by simp [z])) e
    have hall : ∀ p ∈ ps, p < es.size := fun p hp => by
      have := hps.mem_iff.mp hp
      simpa using this
    have em : (ps.filterMap fun p => es[p]?.map (·.2)) = ps.map fun p => (es.getD p (0, .none)).2 := by
      clear hlt hm hl hps hit hs st hQ
      induction ps with
      | nil => rfl
      | cons p r ih =>
        have hp := hall p List.mem_cons_self
        rw [List.filterMap_cons, List.map_cons, ih fun q hq => hall q (List.mem_cons_of_mem _ hq)]
        simp [hp, Array.getD]
    rw [em, List.getElem?_map, List.getElem?_eq_getElem hlt]
    simp [Array.getD, hm]
  done := fun s Q E st hQ => by
    have hl : ps.length = es.size := by rw [hps.length_eq, List.length_range]
    exact sd_done hh st.1 st.2.1 st.2.2 hf (List.getElem?_eq_none (by omega)) fun h' hk => hQ h' s.toks fun b o hb e => hk b o (fun z => hb (by simp [z])) e
  self := fun _ s Q E st hQ => by
    refine wpAny_pyIter_slot st.1.ty si_iter (wpAny_call_entry si_iter st.1.ty si_iter_entry ?_ (si_iter_ok _))
    show wpAny _ _ (ret (.ref I)) _ _ s
    exact wpAny_pure ⟨_, rfl, "set_iterator", _, st.1.ty, si_next.lookup, hQ⟩
end
end CW

namespace CW
open PySem
section
variable {prog : Program} {w : World} {A : Around} {E : Value → Shared → Prop} {s : Shared} {S : Addr} {es : Array (Int × Value)} {ep : Nat} {t : SetTable}
theorem choose_any {src : Source} {n : Nat} {Q : Nat → Shared → Prop} (hn : n ≠ 0) (h : ∀ i, i < n → ∀ d', Q i { s with drawn := d' }) : wpAny (model prog w) A (choose src n) Q E s :=
  fun Γ p _ => ⟨hn, h _ (Nat.mod_lt _ (Nat.pos_of_ne_zero hn)) _⟩
theorem draw_any {α : Type} : ∀ (n : Nat) (xs : List α) (s : Shared) (Q : List α → Shared → Prop), xs.length = n → (∀ l d', List.Perm l xs → Q l { s with drawn := d' }) → wpAny (model prog w) A (drawOrder n xs) Q E s
  | 0, xs, s, Q, e, h => by
    have : xs = [] := List.length_eq_zero_iff.mp e
    subst this
    unfold drawOrder
    exact wpAny_pure (h [] s.drawn (List.Perm.refl _))
  | n + 1, [], s, Q, e, h => by simp at e
  | n + 1, x :: xs, s, Q, e, h => by
    unfold drawOrder
    refine wpAny_bind (choose_any (by simp) fun i hi d' => ?_)
    rw [List.getElem?_eq_getElem hi]
    dsimp only
    refine wpAny_bind (draw_any n _ _ _ (by rw [List.length_eraseIdx_of_lt hi]; simp at e ⊢; omega) fun l d'' hp => wpAny_pure (h _ d'' ?_))
    exact (List.Perm.cons _ hp).trans (cons_erase hi)
/-- the walk that a set gives -/
structure SWalk (prog : Program) (w : World) (m : Nat) (h' : Heap) (S I : Addr) (es : Array (Int × Value)) (vs : List Value) (fp : List Addr) (St : Nat → Heap → Prop) : Prop where
  perm : List.Perm vs (es.toList.map (·.2))
  wk : ∀ A : Around, A.handled = none → Walks prog w A I fp [I] es.size (fun i v => vs[i]? = some v) St
  st : St 0 h'
  lt : ∀ b ∈ fp, b < h'.objs.size
  mem : I ∈ fp
  new : ∀ b ∈ fp, b = S ∨ m ≤ b
  ty : ∀ i (s : Shared), St i s.heap → s.TypeIs (.ref I) "set_iterator"
theorem setDrawn_eq (S : Addr) : setDrawn S = (setState S >>= fun q => setsByText >>= fun b => pure (!b && (!q.2.2.plain && decide (q.1.size > 1)))) := by rfl
theorem pyIter_set {Q : Value → Shared → Prop} (hS : SetAt s.heap S es ep t) (hf : t.fits es.size = true) (hr : Ris t) (hl : w.params.followText "set-order" = true ∨ t.led = true) (hb : es.size < scanBound)
    (hQ : ∀ I h' d' vs fp St, (∀ b o, s.heap.get? b = some o → h'.get? b = some o) → s.heap.objs.size ≤ I → SWalk prog w s.heap.objs.size h' S I es vs fp St → Q (.ref I) { s with heap := h', drawn := d' }) :
    wpAny (model prog w) A (pyIter (.ref S)) Q E s := by
  obtain ⟨oS, hoS, hx, hdS⟩ := id hS
  have hT : s.TypeIs (.ref S) "set" := ⟨oS, hoS, hx.1⟩
  have hlt : S < s.heap.objs.size := Heap.lt_size hoS
  refine wpAny_pyIter_slot hT F.slot_set_iter (wpAny_call_entry F.slot_set_iter hT set_iter_entry ?_ (F.args_set_iter_1 _))
  unfold Builtin.«frozenset.__iter__» Builtin.Frozenset.slot0
  refine wpAny_bind (wpAny_bind (wpAny_pure ?_))
  refine wpAny_pure ?_
  unfold Builtin.Frozenset.sizeOf
  refine wpAny_bind (wpAny_bind (wpAny_setEntries_of hoS hdS hf (wpAny_pure ?_)))
  rw [setDrawn_eq]
  refine wpAny_bind (wpAny_bind (wpAny_setState_of hoS hdS hf (wpAny_bind (byText (wpAny_pure ?_)))))
  dsimp only
  have fin : ∀ (f : Value) (s' : Shared) (vs : List Value) (fp : List Addr) (St : Nat → Heap → Prop) (d' : Drawn), (∃ h' , s' = { s with heap := h', drawn := d' }) → (∀ b o, s.heap.get? b = some o → s'.heap.get? b = some o) → s.heap.objs.size ≤ s'.heap.objs.size →
      SWalk prog w s.heap.objs.size (s'.heap.push { cls := .type "set_iterator", data := .fields #[f, .int 0 0, .ref S, .int es.size 0, .int ep 0] }) S s'.heap.objs.size es vs fp St →
      ∀ A', wpAny (model prog w) A' (setEpoch S >>= fun e => newFields "set_iterator" [f, rawInt 0, .ref S, rawInt es.size, rawInt e] >>= fun v => ret v)
        (fun fin s'' => ∃ r, fin = .done (.ret r) ∧ ∃ T, ∃ (nx : Value), s''.TypeIs r T ∧ typeLookup (.type T) "__next__" = pure (some nx) ∧ Q r s'') E s' := by
    intro f s' vs fp St d' hs' hk hsz W A'
    obtain ⟨h', rfl⟩ := hs'
    refine wpAny_bind (wpAny_setEpoch_of (hk S oS hoS) hdS hf ?_)
    unfold newFields
    refine wpAny_bind (wpAny_newObj_type (wpAny_pure ⟨_, rfl, "set_iterator", _, ⟨_, Heap.get?_push_size _ rfl, rfl⟩, si_next.lookup, ?_⟩))
    exact hQ _ _ d' vs fp St (fun b o e => Heap.get?_push_of_some _ (hk b o e)) hsz W
  have atS : ∀ {h' : Heap} (o : Obj), (∀ b o, s.heap.get? b = some o → h'.get? b = some o) → SetAt (h'.push o) S es ep t := fun {h'} o hk => hS.at fun o' e => Heap.get?_push_of_some _ (hk S o' e)
  cases htx : w.params.followText "set-order" with
  | true =>
    show wpAny _ _ (pure (rawInt 0) >>= _) _ _ _
    refine wpAny_bind (wpAny_pure ?_)
    refine fin (rawInt 0) s _ _ _ s.drawn ⟨s.heap, rfl⟩ (fun _ _ e => e) (Nat.le_refl _) ⟨?_, fun A' ha => walks_text ha htx s.heap.objs.size S (Nat.ne_of_lt hlt) es ep t hf, ⟨⟨_, Heap.get?_push_size _ rfl, rfl, rfl⟩, atS _ fun _ _ e => e⟩, ?_, by simp, ?_, fun i s' st => st.1.ty⟩ _
    · exact (pickOrder_perm _ es).map _
    · intro b hb
      rw [Heap.size_push]
      simp at hb
      rcases hb with rfl | rfl
      · exact Nat.lt_succ_self _
      · exact Nat.lt_succ_of_lt hlt
    · intro b hb
      simp at hb
      rcases hb with rfl | rfl
      · exact .inr (Nat.le_refl _)
      · exact .inl rfl
  | false =>
    have hled : t.led = true := by
      rcases hl with z | z
      · rw [htx] at z; cases z
      · exact z
    cases hdr : (!t.plain && decide (es.size > 1)) with
    | false =>
      show wpAny _ _ (pure (rawInt 0) >>= _) _ _ _
      refine wpAny_bind (wpAny_pure ?_)
      refine fin (rawInt 0) s _ _ _ s.drawn ⟨s.heap, rfl⟩ (fun _ _ e => e) (Nat.le_refl _) ⟨List.Perm.refl _, fun A' ha => walks_plain ha htx s.heap.objs.size S (Nat.ne_of_lt hlt) es ep t hf hr hled hdr, ⟨⟨_, Heap.get?_push_size _ rfl, rfl, rfl⟩, atS _ fun _ _ e => e⟩, ?_, by simp, ?_, fun i s' st => st.1.ty⟩ _
      · intro b hb
        rw [Heap.size_push]
        simp at hb
        rcases hb with rfl | rfl
        · exact Nat.lt_succ_self _
        · exact Nat.lt_succ_of_lt hlt
      · intro b hb
        simp at hb
        rcases hb with rfl | rfl
        · exact .inr (Nat.le_refl _)
        · exact .inl rfl
    | true =>
      rw [if_pos (show (!false && true) = true from rfl)]
      refine wpAny_bind (draw_any _ _ _ _ (by simp) fun ps d' hps => ?_)
      refine wpAny_bind ?_
      unfold newTuple
      have hpl : ps.length = es.size := by rw [hps.length_eq, List.length_range]
      have hcap : es.size ≤ sizeLine := fits_of_scanBound hb
      refine wpAny_newObj_type ?_ (by show (ps.map fun (i : Nat) => rawInt i).toArray.size ≤ sizeLine; simp; omega)
      refine fin (.ref s.heap.objs.size) _ _ _ _ d' ⟨_, rfl⟩ (fun _ _ e => Heap.get?_push_of_some _ e) (by show s.heap.objs.size ≤ (s.heap.push _).objs.size; rw [Heap.size_push]; exact Nat.le_succ _)
        ⟨?_, fun A' ha => walks_drawn ha _ S s.heap.objs.size ?_ ?_ es ep t hf ps hps, ⟨⟨_, Heap.get?_push_size _ rfl, rfl, rfl⟩, atS _ fun _ _ e => Heap.get?_push_of_some _ e, ⟨_, _, Heap.get?_push_of_some _ (Heap.get?_push_size _ rfl), rfl⟩⟩, ?_, by simp, ?_, fun i s' st => st.1.ty⟩ _
      · have e1 : (es.toList.map (·.2)) = (List.range es.size).filterMap fun p => es[p]?.map (·.2) := by
          rw [← List.map_filterMap, filterMap_getElem?_range]
        rw [e1]
        exact hps.filterMap _
      · show S ≠ (s.heap.push _).objs.size
        rw [Heap.size_push]; exact Nat.ne_of_lt (Nat.lt_succ_of_lt hlt)
      · show s.heap.objs.size ≠ (s.heap.push _).objs.size
        rw [Heap.size_push]; exact Nat.ne_of_lt (Nat.lt_succ_self _)
      · intro b hb
        have z1 : ∀ (h : Heap) (o : Obj), (h.push o).objs.size = h.objs.size + 1 := fun h o => Heap.size_push ..
        show b < ((s.heap.push _).push _).objs.size
        rw [z1, z1]
        rcases List.mem_cons.mp hb with e | hb
        · rw [e]; show (s.heap.push _).objs.size < _; rw [z1]; exact Nat.lt_succ_self _
        · rcases List.mem_cons.mp hb with e | hb
          · rw [e]; exact Nat.lt_succ_of_lt (Nat.lt_succ_of_lt hlt)
          · rw [List.mem_singleton.mp hb]; exact Nat.lt_succ_of_lt (Nat.lt_succ_self _)
      · intro b hb
        rcases List.mem_cons.mp hb with e | hb
        · refine .inr ?_
          rw [e]; show _ ≤ (s.heap.push _).objs.size; rw [Heap.size_push]; exact Nat.le_succ _
        · rcases List.mem_cons.mp hb with e | hb
          · exact .inl e
          · rw [List.mem_singleton.mp hb]; exact .inr (Nat.le_refl _)
end
end CW

namespace CW
open PySem
section
variable {prog : Program} {w : World} {A : Around} {E : Value → Shared → Prop} {s : Shared} {S : Addr} {es : Array (Int × Value)} {ep : Nat} {t : SetTable}
theorem split_len : splitId "set.__len__" = some ("set", "__len__") := by kernel_rfl
theorem sub_self : isSubtype (.type "set") (.type "set") = pure true := by rw [isSubtype_type]; kernel_rfl
theorem hint_set {Q : Bool → Shared → Prop} (hT : s.TypeIs (.ref S) "set") (h : Q false s) : wpAny (model prog w) A (Builtin.List.listLengthHint (.ref S)) Q E s := by
  unfold Builtin.List.listLengthHint
  refine wpAny_bind (wpAny_specialOf hT set_lookup_len ?_)
  dsimp only
  rw [split_len]
  dsimp only
  refine wpAny_bind (wpAny_isInstance hT sub_self ?_)
  rw [if_neg (by decide)]
  rw [if_pos]
  · refine wpAny_bind (wpAny_typeOf hT ?_)
    exact wpAny_pure h
  · decide +kernel
abbrev newL : Obj := { cls := .type "list", data := .seq ([] : List Value).toArray }
theorem collect_set {Q : List Value → Shared → Prop} (hh : A.handled = none) (hS : SetAt s.heap S es ep t) (hf : t.fits es.size = true) (hr : Ris t) (hl : w.params.followText "set-order" = true ∨ t.led = true) (hb : es.size < scanBound)
    (hQ : ∀ h' tk d' vs, (∀ b o, s.heap.get? b = some o → h'.get? b = some o) → s.heap.objs.size ≤ h'.objs.size → List.Perm vs (es.toList.map (·.2)) → Q vs { s with heap := h', toks := tk, drawn := d' }) : wpAny (model prog w) A (collect (.ref S)) Q E s := by
  obtain ⟨oS, hoS, hx, hdS⟩ := id hS
  have hlt : S < s.heap.objs.size := Heap.lt_size hoS
  unfold collect
  refine wpAny_bind (wpAny_runValue (codeAny_builtin F.entry_proto_collect ?_))
  rw [Around.under_plainId F.plain_proto_collect _]
  show wpAny _ A.in1 (newList [] >>= fun l => again (.builtin "list.__iadd__" ⟨[l, .ref S], []⟩)) _ _ s
  refine wpAny_bind (wpAny_newObj_type (wpAny_pure ⟨plainId_quiet F.plain_list_iadd _, codeAny_builtin F.entry_list_iadd ?_⟩))
  rw [Around.under_plainId F.plain_list_iadd _]
  have up : ∀ b o, s.heap.get? b = some o → (s.heap.push newL).get? b = some o := fun b o e => Heap.get?_push_of_some _ e
  have hT1 : Shared.TypeIs { s with heap := s.heap.push newL } (.ref S) "set" := ⟨oS, up S oS hoS, hx.1⟩
  have hL1 : (s.heap.push newL).get? s.heap.objs.size = some newL := Heap.get?_push_size _ rfl
  have hne : Builtin.List.listSameRef (.ref s.heap.objs.size) (.ref S) = false := by
    have : s.heap.objs.size ≠ S := Nat.ne_of_gt hlt
    simp [Builtin.List.listSameRef, this]
  show wpAny _ A.in1 (Builtin.List.listExtendWith (.ref s.heap.objs.size) (.ref S) (.ref s.heap.objs.size)) _ _ { s with heap := s.heap.push newL }
  unfold Builtin.List.listExtendWith
  refine wpAny_bind (wpAny_typeOf hT1 ?_)
  rw [if_neg (by rw [hne]; decide)]
  refine wpAny_bind (pyIter_set (hS.at fun o e => up S o e) hf hr hl hb fun I h1 d1 vs fp St hk hI W => ?_)
  have hT2 : Shared.TypeIs { s with heap := h1, drawn := d1 } (.ref S) "set" := ⟨oS, hk S oS (up S oS hoS), hx.1⟩
  refine wpAny_bind (wpAny_holding (hint_set hT2 ?_))
  rw [if_pos]
  rotate_left
  · decide +kernel
  show wpAny _ A.in1 (rule "list.extend.makes-room" >>= fun _ => Builtin.List.listTouch (.ref s.heap.objs.size) >>= fun _ => again (.builtin "list.extend.loop" ⟨[.ref s.heap.objs.size, .ref I, .ref s.heap.objs.size], []⟩)) _ _ _
  refine wpAny_bind (wpAny_rule (wpAny_bind ?_))
  have hL2 : h1.get? s.heap.objs.size = some newL := hk _ _ hL1
  show wpAny _ A.in1 (updateSeq s.heap.objs.size (·.push .none) >>= fun _ => updateSeq s.heap.objs.size (·.pop)) _ _ _
  refine wpAny_bind (wpAny_updateSeq hL2 rfl ?_)
  have hL3 := Heap.get?_update_self (Obj.mapSeq (·.push Value.none)) hL2 rfl
  refine wpAny_updateSeq hL3 rfl ?_
  have hL4 := Heap.get?_update_self (Obj.mapSeq (·.pop)) hL3 rfl
  have oth : ∀ b o, b ≠ s.heap.objs.size → h1.get? b = some o → ((h1.update s.heap.objs.size (Obj.mapSeq (·.push Value.none))).update s.heap.objs.size (Obj.mapSeq (·.pop))).get? b = some o :=
    fun b o hb e => (Heap.get?_update_other _ _ (Ne.symm hb)).trans ((Heap.get?_update_other _ _ (Ne.symm hb)).trans e)
  have hIn : s.heap.objs.size ≠ I := Nat.ne_of_lt (Nat.lt_of_lt_of_le (by show s.heap.objs.size < (s.heap.push newL).objs.size; rw [Heap.size_push]; exact Nat.lt_succ_self _) hI)
  have hLf : s.heap.objs.size ∉ fp := fun z => by
    rcases W.new _ z with e | e
    · exact Nat.ne_of_gt hlt e
    · have : (s.heap.push newL).objs.size ≤ s.heap.objs.size := e
      rw [Heap.size_push] at this
      exact absurd this (Nat.not_succ_le_self _)
  refine wpAny_pure ⟨plainId_quiet F.plain_extend_loop _, codeAny_extend_loopS (W.wk A.in1 hh).toS (fits_of_scanBound hb) _ hLf _ es.size 0 _ _ _ rfl (Nat.zero_le _) ?_ hL4 (ItemsOf.nil _) fun s' acc c hm hS' hacc => ?_⟩
  · exact (W.wk A.in1 hh).frame 0 h1 _ W.st fun b hbf o e => oth b o (fun z => hLf (z ▸ hbf)) e
  · show wpAny _ A (load s.heap.objs.size >>= _) _ _ s'
    refine wpAny_bind (wpAny_load hS' (wpAny_pure ?_))
    have ev : acc.toList = vs := by
      have hvl : vs.length = es.size := by rw [W.perm.length_eq]; simp
      refine List.ext_getElem? fun i => ?_
      by_cases hi : i < es.size
      · have h1 : i < acc.size := by rw [hacc.1]; exact hi
        have h2 := hacc.2 i acc[i] (Array.getElem?_eq_getElem h1)
        rw [h2]; simp [h1]
      · rw [List.getElem?_eq_none (show acc.toList.length ≤ i by have := hacc.1; simp; omega), List.getElem?_eq_none (show vs.length ≤ i by omega)]
    rw [ev]
    obtain ⟨h2, g2, d2, tk2, os2⟩ := s'
    have eg : g2 = s.gens := hm.gens
    have ed : d2 = d1 := hm.drawn
    have eo : os2 = s.os := hm.os
    subst eg ed eo
    refine hQ h2 tk2 d2 vs (fun b o e => ?_) (Nat.le_of_lt (Heap.lt_size hS')) W.perm
    refine hm.heap b o (fun z => ?_) (oth b o (Nat.ne_of_lt (Heap.lt_size e)) (hk b o (up b o e)))
    rcases List.mem_cons.mp z with q | q
    · exact Nat.ne_of_lt (Heap.lt_size e) q
    · have q' := List.mem_singleton.mp q
      rw [q'] at e
      exact absurd (Nat.lt_of_lt_of_le (Heap.lt_size e) (Nat.le_trans (Nat.le_succ _) (by have z := hI; rw [show (s.heap.push newL).objs.size = s.heap.objs.size + 1 from Heap.size_push ..] at z; exact z))) (Nat.lt_irrefl _)
end
end CW

namespace CW
open PySem
/-- a set of ints whose table is in order -/
def SetI (prog : Program) (w : World) (h : Heap) (a : Addr) (S : Int → Bool) (n : Nat) : Prop :=
  ∃ es ep t, SetAt h a es ep t ∧ ElemsOf (intKind prog w) es.toList ∧ (∀ k, S k = true ↔ ∃ e ∈ es.toList, (intKind prog w).is k e.2 = true) ∧ es.size < scanBound ∧ t.fits es.size = true ∧ es.size = n ∧
    Ris t ∧ (w.params.followText "set-order" = true ∨ t.led = true)
section
variable {prog : Program} {w : World} {A : Around} {E : Value → Shared → Prop} {s : Shared} {a : Addr} {es : Array (Int × Value)} {ep : Nat} {t : SetTable}
theorem SetI.at {h h' : Heap} {S : Int → Bool} {n : Nat} (x : SetI prog w h a S n) (e : ∀ o, h.get? a = some o → h'.get? a = some o) : SetI prog w h' a S n := let ⟨es, ep, t, q, r⟩ := x; ⟨es, ep, t, q.at e, r⟩
theorem SetI.of {h : Heap} {S : Int → Bool} {n : Nat} (x : SetI prog w h a S n) : h.SetOf (intKind prog w) a S n :=
  let ⟨es, ep, t, ⟨o, ho, hx, hd⟩, h1, h2, h3, h4, h5, _⟩ := x; ⟨o, es, ep, t, ho, hx, hd, h1, h2, h3, h4, h5⟩
theorem put_I {es1 : Array (Int × Value)} {t2 : SetTable} {S' : Int → Bool} {n : Nat} (hS : SetAt s.heap a es ep t) (h1 : ElemsOf (intKind prog w) es1.toList) (h2 : ∀ k, S' k = true ↔ ∃ e ∈ es1.toList, (intKind prog w).is k e.2 = true)
    (h3 : es1.size < scanBound) (h4 : t2.fits es1.size = true) (h5 : es1.size = n) (h6 : Ris t2) (h7 : w.params.followText "set-order" = true ∨ t2.led = true) {Q : Unit → Shared → Prop}
    (h : ∀ h', Heap.SameBut a s.heap h' → SetAt h' a es1 (ep + 1) t2 → SetI prog w h' a S' n → Q () { s with heap := h' }) : wpAny (model prog w) A (storeSet a es1 t2) Q E s := by
  obtain ⟨o, ho, hx, hd⟩ := hS
  refine wpAny_storeSet_of ho hd ?_ (fits_of_scanBound h3)
  obtain ⟨g1, _⟩ := SetOf_store (knd := intKind prog w) ho hx hd h1 h2 h3 h4
  have g : SetAt (s.heap.update a (Obj.putSet es1 t2)) a es1 (ep + 1) t2 := ⟨_, g1, hx, rfl⟩
  exact h _ (Heap.SameBut.update ..) g ⟨es1, ep + 1, t2, g, h1, h2, h3, h4, h5, h6, h7⟩
theorem add_I {S : Int → Bool} {n : Nat} {k : Int} {u : Tok} {Q : Bool → Shared → Prop} (hS : SetI prog w s.heap a S n) (hroom : n + 1 < scanBound)
    (h : ∀ h', Heap.SameBut a s.heap h' → SetI prog w h' a (fun k' => S k' || decide (k' = k)) (if S k then n else n + 1) → Q (!S k) { s with heap := h' }) :
    wpAny (model prog w) A (setAddHashed a (.int k u) ((intKind prog w).hash k)) Q E s := by
  obtain ⟨es, ep, t, hA, h1, h2, h3, h4, h5, h6, h7⟩ := id hS
  obtain ⟨o, ho, hx, hd⟩ := id hA
  have hkey : (intKind prog w).is k (.int k u) = true := intKind_is _ _ _ _
  unfold setAddHashed setAddHashedIn
  refine wpAny_holding (wpAny_bind (wpAny_setState_of ho hd h4 ?_))
  dsimp only
  rw [byScan_of (knd := intKind prog w) rfl h3 h1, if_pos rfl]
  unfold setAddByScan
  refine wpAny_bind (wpAny_bind (wpAny_rule (wpAny_bind (wpAny_setScan_of hkey ho hd h4 h1 ?_))))
  cases hr : List.findIdx? (fun e => (intKind prog w).is k e.2) es.toList with
  | some j =>
    obtain ⟨hj, hpj, _⟩ := List.findIdx?_eq_some_iff_getElem.mp hr
    have hSk : S k = true := (h2 k).mpr ⟨es.toList[j], List.getElem_mem hj, hpj⟩
    refine wpAny_pure (wpAny_pure ?_)
    have q := h s.heap (Heap.SameBut.refl a s.heap) ⟨es, ep, t, hA, h1, fun k' => ?_, h3, h4, by rw [hSk]; exact h5, h6, h7⟩
    · rw [hSk] at q; exact q
    · rw [← h2 k', Bool.or_eq_true, decide_eq_true_eq]
      exact ⟨fun z => z.elim id fun e => e ▸ hSk, .inl⟩
  | none =>
    have hSk : S k = false := by
      cases hk : S k with
      | false => rfl
      | true =>
        obtain ⟨e, he, hp⟩ := (h2 k).mp hk
        have := List.findIdx?_eq_none_iff.mp hr e he
        rw [hp] at this; cases this
    have tab := layNew_tab t es ((intKind prog w).hash k) (.int k u) h6
    have prm := layNew_perm t es ((intKind prog w).hash k) (.int k u)
    have fit := layNew_fits t es ((intKind prog w).hash k) (.int k u)
    dsimp only
    generalize layNew t es ((intKind prog w).hash k) (.int k u) = L at tab prm fit ⊢
    obtain ⟨es1, t1, dm, gv⟩ := L
    dsimp only at tab prm fit ⊢
    rw [Array.toList_push] at prm
    have e1 : ElemsOf (intKind prog w) es1.toList := (h1.push hkey rfl).perm prm
    have e2 : ∀ k', (S k' || decide (k' = k)) = true ↔ ∃ e ∈ es1.toList, (intKind prog w).is k' e.2 = true := mem_push_iff hkey h2 prm
    have ez : es1.size = n + 1 := by
      have := prm.length_eq
      simp at this
      omega
    have e3 : es1.size < scanBound := by omega
    have e7 : w.params.followText "set-order" = true ∨ t1.led = true := h7.imp id fun z => by rw [tab.2]; exact z
    have gw : ∀ (b : Bool) (s₁ : Shared) (Q' : Unit → Shared → Prop), Q' () s₁ → wpAny (model prog w) A (match b with | true => rule "set.scan.the-table-gave-way" | false => pure ()) Q' E s₁ :=
      fun b s₁ Q' hq => by cases b <;> first | exact wpAny_pure hq | exact wpAny_rule hq
    refine wpAny_bind (gw gv _ _ ?_)
    have fin : ∀ t2 : SetTable, t2.fits es1.size = true → Ris t2 → (w.params.followText "set-order" = true ∨ t2.led = true) →
        wpAny (model prog w) A (storeSet a es1 t2 >>= fun _ => if (!dm && t2.tooFull) = true then
          (match (relayAll t2 es1 (SetTable.grown es1.size)).2.2 with | true => rule "set.scan.the-table-gave-way" | false => pure ()) >>= fun (_ : Unit) =>
            storeSet a (relayAll t2 es1 (SetTable.grown es1.size)).1 (relayAll t2 es1 (SetTable.grown es1.size)).2.1 >>= fun _ => pure (some true) else pure (some true))
          (fun r s' => ∃ h', Heap.SameBut a s.heap h' ∧ SetI prog w h' a (fun k' => S k' || decide (k' = k)) (n + 1) ∧ r = some true ∧ s' = { s with heap := h' }) E s := by
      intro t2 f2 r2 l2
      refine wpAny_bind (put_I hA e1 e2 e3 f2 ez r2 l2 fun h' sb hA' hI => ?_)
      split
      · have tab2 := relayAll_tab t2 es1 (SetTable.grown es1.size)
        have prm2 := relayAll_perm t2 es1 (SetTable.grown es1.size)
        have fit2 := relayAll_fits t2 es1 (SetTable.grown es1.size)
        generalize relayAll t2 es1 (SetTable.grown es1.size) = R at tab2 prm2 fit2 ⊢
        obtain ⟨es2, t3, gv2⟩ := R
        dsimp only at tab2 prm2 fit2 ⊢
        have ez2 : es2.size = es1.size := by simpa using prm2.length_eq
        refine wpAny_bind (gw gv2 _ _ ?_)
        refine wpAny_bind (put_I (n := n + 1) hA' (e1.perm prm2) (fun k' => (e2 k').trans ⟨fun ⟨e, he, q⟩ => ⟨e, prm2.mem_iff.mpr he, q⟩, fun ⟨e, he, q⟩ => ⟨e, prm2.mem_iff.mp he, q⟩⟩) (by omega) fit2 (by omega) tab2.1 (l2.imp id fun z => by rw [tab2.2]; exact z) fun h'' sb' _ hI' => ?_)
        exact wpAny_pure ⟨h'', sb.trans sb', hI', rfl, rfl⟩
      · exact wpAny_pure ⟨h', sb, hI, rfl, rfl⟩
    have out : ∀ t2 : SetTable, t2.fits es1.size = true → Ris t2 → (w.params.followText "set-order" = true ∨ t2.led = true) → wpAny (model prog w) A (storeSet a es1 t2 >>= fun _ => if (!dm && t2.tooFull) = true then
          (match (relayAll t2 es1 (SetTable.grown es1.size)).2.2 with | true => rule "set.scan.the-table-gave-way" | false => pure ()) >>= fun (_ : Unit) =>
            storeSet a (relayAll t2 es1 (SetTable.grown es1.size)).1 (relayAll t2 es1 (SetTable.grown es1.size)).2.1 >>= fun _ => pure (some true) else pure (some true))
          (fun r s' => wpAny (model prog w) A (match r with | some added => pure added | none => setAddHashedIn a (.int k u) ((intKind prog w).hash k) 99999) Q E s') E s := fun t2 f2 r2 l2 => by
      refine wpAny_mono (fin t2 f2 r2 l2) (fun r s' hq => ?_) fun _ _ z => z
      obtain ⟨h', sb, hI, rfl, rfl⟩ := hq
      refine wpAny_pure ?_
      have q := h h' sb
      rw [hSk] at q
      exact q hI
    split
    · rw [hashByValue_scannable 8 (x := .int k u) rfl]
      refine wpAny_bind (wpAny_pure ?_)
      exact out t1 fit tab.1 e7
    · refine wpAny_bind (wpAny_pure ?_)
      exact out t1 fit tab.1 e7
end
end CW

namespace CW
open PySem PyProof.Rows
theorem SetI.congr {prog : Program} {w : World} {h : Heap} {a : Addr} {S S' : Int → Bool} {n n' : Nat} (x : SetI prog w h a S n) (e : ∀ k, S k = S' k) (en : n = n') : SetI prog w h a S' n' := by
  have : S = S' := funext e
  subst this; subst en; exact x
section
variable {prog : Program} {w : World} {A : Around} {R : Result → Shared → Prop} {I : Addr} {fp wr : List Addr} {G : Array GenState → Array GenState → Prop} {n : Nat} {P : Nat → Value → Prop} {St : Nat → Shared → Prop}
theorem loop_I (W : WalksS prog w A.in1 I fp wr G n P St) (S : Addr) (off : S ∉ fp) (val : Nat → Int) (hval : ∀ i v, P i v → ∃ t, v = .int (val i) t) (hb : n + 1 < scanBound) :
    ∀ (k i : Nat) (s : Shared), n - i = k → i ≤ n → St i s → SetI prog w s.heap S (fun x => (firstMet val i).any (· == x)) (firstMet val i).length →
      (∀ s', Moved (S :: wr) G s s' → SetI prog w s'.heap S (fun x => (firstMet val n).any (· == x)) (firstMet val n).length → R (.ok (.ret .none)) s') →
      codeAny (model prog w) A (.builtin "set.update.loop" ⟨[.ref S, .ref I], []⟩) R s := by
  have offw : S ∉ wr := fun z => off (W.sub _ z)
  have more : ∀ b ∈ wr, b ∈ S :: wr := fun b z => List.mem_cons_of_mem _ z
  intro k
  induction k with
  | zero =>
    intro i s hk hi st hS fin
    obtain rfl : i = n := by omega
    refine codeAny_builtin F.entry_set_update_loop ?_
    rw [Around.under_plainId F.plain_set_update_loop _]
    show wpAny _ A.in1 (pyNext (.ref I) >>= _) _ _ s
    refine wpAny_bind (W.done s _ _ st fun s' mv => ?_)
    show wpAny _ A.in1 (ret Value.none) _ _ s'
    exact wpAny_pure (fin s' (mv.mono more) (hS.at fun o e => mv.heap S o offw e))
  | succ k ih =>
    intro i s hk hi st hS fin
    refine codeAny_builtin F.entry_set_update_loop ?_
    rw [Around.under_plainId F.plain_set_update_loop _]
    show wpAny _ A.in1 (pyNext (.ref I) >>= _) _ _ s
    refine wpAny_bind (W.item i s _ _ (by omega) st fun v s' hP st' mv => ?_)
    obtain ⟨t, rfl⟩ := hval i v hP
    have hS' := hS.at (h' := s'.heap) fun o e => mv.heap S o offw e
    show wpAny _ A.in1 (holding [Value.int (val i) t] (setAdd S (.int (val i) t)) >>= _) _ _ s'
    refine wpAny_bind (wpAny_holding ?_)
    unfold setAdd
    refine wpAny_holding (wpAny_bind ((intKind prog w).pyHash (k := val i) (intKind_is _ _ _ _) ?_))
    refine add_I (s := { s' with toks := s'.toks + 1 }) hS' (by have := firstMet_length_le val i; omega) fun h' sb hS2 => ?_
    have hSi := hS2.congr (S' := fun x => (firstMet val (i + 1)).any (· == x)) (n' := (firstMet val (i + 1)).length) (fun x => by rw [firstMet_succ, step_any]) (by rw [firstMet_succ, step_length])
    refine wpAny_pure ⟨plainId_quiet F.plain_set_update_loop _, ih (i + 1) _ (by omega) (by omega) (W.frame _ s' _ _ st' (Nat.le_succ _) fun b z o e => ?_) hSi fun s2 mv2 hS3 => ?_⟩
    · rw [sb.2 b fun q : b = S => off (q ▸ z)]; exact e
    · refine fin s2 (Moved.trans W.gtrans ((mv.mono more).then_heap (Nat.le_succ _) fun b o z e => ?_) mv2) hS3
      rw [sb.2 b fun q : b = S => z (q ▸ List.mem_cons_self)]; exact e
end
section
variable {prog : Program} {w : World} {A : Around} {E : Value → Shared → Prop} {s : Shared}
abbrev newS (w : World) : Obj := { cls := .type "set", dict := none, data := .set #[] 0 (.fresh 0 0 (!(w.params.followText "set-order"))) }
theorem new_I (a : Value) {Q : Value → Shared → Prop} (h : Q (.ref s.heap.objs.size) { s with heap := s.heap.push (newS w) }) : codeAny (model prog w) A (.call (.builtin "set.__new__") ⟨[.type "set", a], []⟩) (wants Q E) s := by
  refine codeAny_of_tree ?_
  show wpAny _ A.in1 (do checkBuiltinCall "set.__new__" ⟨[.type "set", a], []⟩; again (.builtin "set.__new__" ⟨[.type "set", a], []⟩)) _ _ s
  refine wpAny_bind (wpAny_of_eq (F.newCall_set_1 a) (wpAny_pure ⟨plainId_quiet F.plain_set_new _, codeAny_builtin F.entry_set_new ?_⟩))
  rw [Around.under_plainId F.plain_set_new _]
  unfold Builtin.«set.__new__» Builtin.Frozenset.newClass
  have sub := sub_set_self
  obtain ⟨h0, g0, d0, t0, o0⟩ := s
  dsimp only
  wp_walk
  refine wpAny_askSetting (wpAny_pure ?_)
  dsimp only
  simp only [newObj]
  exact wpAny_bind (wpAny_alloc (wpAny_pure (wpAny_pure h)))
theorem fresh_I {h : Heap} {a : Addr} (e : h.get? a = some (newS w)) : SetI prog w h a (fun _ => false) 0 := by
  refine ⟨#[], 0, _, ⟨_, e, ⟨rfl, rfl, rfl⟩, rfl⟩, fun e he => by simp at he, fun k => by simp, by decide, rfl, rfl, ?_, ?_⟩
  · show List.Pairwise _ (#[] : Array Nat).toList
    simp
  · cases w.params.followText "set-order" with
    | true => exact .inl rfl
    | false => exact .inr rfl
set_option maxHeartbeats 3200000 in
theorem call_set_I {l : Addr} {items : Array Value} {ns : List Int} {Q : Value → Shared → Prop} (hh : A.handled = none) (hl : s.heap.IsList l items) (hi : IntsAre items.toList ns) (hb : items.size + 1 < scanBound)
    (h : ∀ (h' : Heap) (tk : Nat), SetI prog w h' s.heap.objs.size (fun x => (firstMet (fun i => ns.getD i 0) items.size).any (· == x)) (firstMet (fun i => ns.getD i 0) items.size).length →
      (∀ b o, b < s.heap.objs.size → s.heap.get? b = some o → h'.get? b = some o) → Q (.ref s.heap.objs.size) { s with heap := h', toks := tk }) :
    wpAny (model prog w) A (call (.type "set") [.ref l]) Q E s := by
  obtain ⟨c, tl, hmro⟩ := F.called_set.mro
  have hmade := F.called_set.made
  have hsub := F.called_set.sub
  refine wpAny_call (codeAny_of_tree ?_)
  show wpAny _ _ (callAny (.type "set") _) _ _ _
  refine wpAny_pure ⟨Code.quiet_builtin _ (by decide +kernel), codeAny_builtin F.entry_type_call ?_⟩
  rw [Around.under_plain (weight_type_call_type "set" [.ref l] []) rfl]
  have f1 := F.called_set.notType
  have f2 := F.called_set.canCreate
  have f3 := F.typeCall_set_1 (.ref l)
  repeat (any_goals (first | assumption | wp_step))
  refine codeAny_mono (new_I (.ref l) (E := E) (Q := fun ob s₁ => ob = .ref s.heap.objs.size ∧ s₁ = { s with heap := s.heap.push (newS w) }) ⟨rfl, rfl⟩) fun r s₁ hr => ?_
  match r, hr with
  | .error e, hr => exact hr
  | .ok .next, hr => exact hr.elim
  | .ok .brk, hr => exact hr.elim
  | .ok .cont, hr => exact hr.elim
  | .ok (.ret ob), hr =>
    obtain ⟨rfl, rfl⟩ := hr
    have hS : (s.heap.push (newS w)).get? s.heap.objs.size = some (newS w) := Heap.get?_push_size _ rfl
    have hT : Shared.TypeIs { s with heap := s.heap.push (newS w) } (.ref s.heap.objs.size) "set" := ⟨_, hS, rfl⟩
    have i1 := F.called_set.init.lookup
    have i2 := F.called_set.init.bind (.ref s.heap.objs.size)
    repeat (any_goals (first | assumption | wp_step))
    refine codeAny_mono (codeAny_call_builtin (R := wants (fun r s₂ => r = .none ∧ ∃ h' tk, s₂ = { s with heap := h', toks := tk } ∧
        SetI prog w h' s.heap.objs.size (fun x => (firstMet (fun i => ns.getD i 0) items.size).any (· == x)) (firstMet (fun i => ns.getD i 0) items.size).length ∧
        (∀ b o, b < s.heap.objs.size → s.heap.get? b = some o → h'.get? b = some o)) E) F.called_set.init.plain F.entry_set_init (check_set_init_1 hT ?_)) fun r₂ s₂ hr₂ => ?_
    · obtain ⟨ol, hol, hcl, nl, hdl⟩ := hl
      obtain ⟨oc, od, oda, osl⟩ := ol
      simp only at hcl hdl
      subst hcl; subst hdl
      have hol' : (s.heap.push (newS w)).get? l = some { cls := .type "list", dict := od, data := .seq items nl, slots := osl } := Heap.get?_push_of_some _ hol
      have g1 := F.sub_list_set
      have g2 := F.sub_list_frozenset
      have g3 : (Value.type "list" == Value.type "dict") = false := by decide
      have hl1 : (s.heap.push (newS w)).IsList l items := ⟨_, hol', rfl, nl, rfl⟩
      unfold Builtin.«set.__init__» noKeywords Builtin.Frozenset.updateFrom
      generalize hPI : pyIter = PI
      wp_walk
      subst hPI
      refine wpAny_pyIter_list hl1 (wpAny_bind (wpAny_runValue ?_))
      have hlS : l < s.heap.objs.size := Heap.lt_size hol
      have z1 : (s.heap.push (newS w)).objs.size = s.heap.objs.size + 1 := Heap.size_push ..
      have hneI : l ≠ (s.heap.push (newS w)).objs.size := by rw [z1]; exact Nat.ne_of_lt (Nat.lt_succ_of_lt hlS)
      have hSf : s.heap.objs.size ∉ [(s.heap.push (newS w)).objs.size, l] := by
        rw [z1]
        intro z
        rcases List.mem_cons.mp z with e | z
        · exact Nat.ne_of_lt (Nat.lt_succ_self _) e
        · exact Nat.ne_of_gt hlS (List.mem_singleton.mp z)
      have hval : ∀ (i : Nat) (v : Value), items[i]? = some v → ∃ t, v = .int ((fun i => ns.getD i 0) i) t := fun i v hv => IntsAre.int_at hi i v (by rw [Array.getElem?_toList]; exact hv)
      refine loop_I ((Walks.list (by show A.handled = none; exact hh) _ l hneI items).toS) s.heap.objs.size hSf (fun i => ns.getD i 0) hval hb (items.size - 0) 0 _ (by omega) (Nat.zero_le _)
        ⟨⟨_, Heap.get?_push_size _ rfl, rfl, rfl⟩, (hl1.push _)⟩ ((fresh_I (Heap.get?_push_of_some _ hS)).congr (fun _ => rfl) rfl) fun s' mv hS' => ?_
      obtain ⟨h', g', d', tk', os'⟩ := s'
      obtain rfl : g' = s.gens := mv.gens
      obtain rfl : d' = s.drawn := mv.drawn
      obtain rfl : os' = s.os := mv.os
      show wpAny _ _ _ _ _ _
      refine wpAny_pure ?_
      show wpAny _ _ (ret Value.none) _ _ _
      refine wpAny_pure ⟨rfl, h', tk', rfl, hS', fun b o hb e => ?_⟩
      refine mv.heap b o (fun z => ?_) (Heap.get?_push_of_some _ (Heap.get?_push_of_some _ e))
      rcases List.mem_cons.mp z with q | z
      · exact Nat.ne_of_lt hb q
      · rw [List.mem_singleton.mp z] at hb
        exact absurd hb (by show ¬ (s.heap.push (newS w)).objs.size < s.heap.objs.size; rw [z1]; omega)
    · match r₂, hr₂ with
      | .error e, hr => exact hr
      | .ok .next, hr => exact hr.elim
      | .ok .brk, hr => exact hr.elim
      | .ok .cont, hr => exact hr.elim
      | .ok (.ret r), hr =>
        obtain ⟨rfl, h', tk, rfl, hS', hk'⟩ := hr
        repeat (any_goals (first | assumption | wp_step))
        exact h _ _ hS' hk'
end
end CW

namespace CW
open PySem PyProof.Rows
theorem int_of_is {prog : Program} {w : World} {k : Int} {v : Value} (h : (intKind prog w).is k v = true) : ∃ t, v = .int k t := by
  cases v <;> simp [intKind, Value.isInt] at h
  rename_i i t
  exact ⟨t, by rw [h]⟩
theorem ints_of_elems {prog : Program} {w : World} : ∀ {vs : List Value}, (∀ v ∈ vs, ∃ k, (intKind prog w).is k v = true) → ∃ ns, IntsAre vs ns
  | [], _ => ⟨[], .nil⟩
  | v :: r, h => by
    obtain ⟨k, hk⟩ := h v List.mem_cons_self
    obtain ⟨t, rfl⟩ := int_of_is hk
    obtain ⟨ns, hn⟩ := ints_of_elems fun x hx => h x (List.mem_cons_of_mem _ hx)
    exact ⟨k :: ns, .cons k t hn⟩
theorem ints_mem {vs : List Value} {ns : List Int} (h : IntsAre vs ns) (k : Int) : k ∈ ns ↔ ∃ t, Value.int k t ∈ vs := by
  induction h with
  | nil => simp
  | cons n t hr ih =>
    rw [List.mem_cons, ih]
    constructor
    · rintro (rfl | ⟨u, hu⟩)
      · exact ⟨t, List.mem_cons_self⟩
      · exact ⟨u, List.mem_cons_of_mem _ hu⟩
    · rintro ⟨u, hu⟩
      rcases List.mem_cons.mp hu with e | hu
      · cases e; exact .inl rfl
      · exact .inr ⟨u, hu⟩
section
variable {prog : Program} {w : World} {A : Around} {E : Value → Shared → Prop} {s : Shared} {a : Addr}
/-- sorted(set) -/
theorem sorted_I {S : Int → Bool} {n : Nat} {Q : Value → Shared → Prop} (hh : A.handled = none) (hS : SetI prog w s.heap a S n) (h64 : n < 64)
    (h : ∀ (h' : Heap) (tk : Nat) (d' : Drawn) (out : List Value) (ns : List Int) (D : Addr) (e : Nat), (∀ b o, s.heap.get? b = some o → h'.get? b = some o) → s.heap.objs.size ≤ D → h'.get? D = some { cls := .type "list", data := .seq out.toArray e } → IntsAre out ns →
      ns.Pairwise (· ≤ ·) → ns.length = n → (∀ k, k ∈ ns ↔ S k = true) → Q (.ref D) { s with heap := h', toks := tk, drawn := d' }) :
    wpAny (model prog w) A (call (.builtin "sorted") [.ref a]) Q E s := by
  obtain ⟨es, ep, t, hA, h1, h2, h3, h4, h5, h6, h7⟩ := hS
  refine Calls.call_function_entry kind_sorted plain_sorted entry_sorted (args_sorted1 _) ?_
  unfold Builtin.«sorted»
  refine wpAny_bind (m := checkCount "sorted" 1 1 _) (wpAny_pure ?_)
  refine wpAny_bind (collect_set (by show A.handled = none; exact hh) hA h4 h6 h7 h3 fun h0 tk d0 vs hk le0 hp => ?_)
  have hvl : vs.length = n := by rw [hp.length_eq]; simpa using h5
  refine wpAny_bind (wpAny_newList (hsz := by rw [sizeLine_eq]; omega) ?_)
  obtain ⟨ns, hI⟩ : ∃ ns, IntsAre vs ns := ints_of_elems (prog := prog) (w := w) fun v hv => by
    obtain ⟨e, he, rfl⟩ := List.mem_map.mp (hp.mem_iff.mp hv)
    obtain ⟨⟨k, hk, _⟩, _⟩ := h1 e he
    exact ⟨k, hk⟩
  have hoL : (h0.push (seqObj "list" vs.toArray 0)).get? h0.objs.size = some (seqObj "list" vs.toArray 0) := Heap.get?_push_size _ rfl
  refine wpAny_bind (wpAny_holding (wpAny_call_entry slot_list_sort ⟨_, hoL, rfl⟩ entry_list_sort (list_sort_tree hoL hI (by omega) fun out ns' a1 a2 a3 => ⟨_, rfl, ?_⟩) (args_list_sort _)))
  obtain ⟨e, hat⟩ := sortedHeap_at (out := out) hoL
  refine wpAny_pure ⟨_, rfl, h (sortedHeap (h0.push (seqObj "list" vs.toArray 0)) h0.objs.size vs out) tk d0 out.toList ns' h0.objs.size e (fun b o e' => ?_) le0 ?_ a1 a3 ?_ fun k => ?_⟩
  · have e1 := hk b o e'
    have hl := Heap.lt_size e1
    rw [sortedHeap_old (Nat.ne_of_lt hl) (by rw [size_push']; exact Nat.lt_succ_of_lt hl)]
    exact Heap.get?_push_of_some _ e1
  · simpa using hat
  · rw [a2.length_eq, ← hI.length, hvl]
  · rw [a2.mem_iff, ints_mem hI, h2]
    constructor
    · rintro ⟨u, hu⟩
      obtain ⟨e, he, q⟩ := List.mem_map.mp (hp.mem_iff.mp hu)
      exact ⟨e, he, by rw [q]; exact intKind_is _ _ _ _⟩
    · rintro ⟨e, he, q⟩
      obtain ⟨u, hu⟩ := int_of_is q
      exact ⟨u, hp.mem_iff.mpr (List.mem_map.mpr ⟨e, he, hu⟩)⟩
end
end CW

/-! THE HAND LAYER, for ints, bools, texts, own classes, LISTS and tuples (index, slices, in, append, pop ..), calls, loops. Paste it whole ahead of your own text; what your proof does not reach may be deleted. -/
namespace L2
open PySem PySem.Spec PyProof.Rows

/-- a key: an int or a str -/
abbrev Key := Sum Int Str
def keyIs : Key → Value → Bool
  | .inl k, v => Value.isInt k v
  | .inr x, v => Value.isStrOf x v
def keyH (w : World) : Key → Int
  | .inl k => hashInt k
  | .inr x => hashStr w x
theorem keyIs_shape : ∀ {k : Key} {v : Value}, keyIs k v = true → (∃ i t, k = Sum.inl i ∧ v = Value.int i t) ∨ (∃ x t, k = Sum.inr x ∧ v = Value.str x t)
  | .inl i, v, h => by
    obtain ⟨t, e⟩ := Value.isInt_shape (k := i) (v := v) h
    exact .inl ⟨i, t, rfl, e⟩
  | .inr x, v, h => by
    obtain ⟨t, e⟩ := Value.isStrOf_shape (x := x) (v := v) h
    exact .inr ⟨x, t, rfl, e⟩
theorem keyIs_int (i : Int) (t : Tok) : keyIs (.inl i) (.int i t) = true := by simp [keyIs, Value.isInt]
theorem keyIs_str (x : Str) (t : Tok) : keyIs (.inr x) (.str x t) = true := by simp [keyIs, Value.isStrOf]
theorem key_ll (a b : Int) : decide ((Sum.inl a : Key) = Sum.inl b) = (a == b) := by
  by_cases e : a = b
  · subst e; simp
  · have h : ¬ (Sum.inl a : Key) = Sum.inl b := fun q => e (Sum.inl.inj q)
    rw [decide_eq_false h]
    exact (beq_eq_false_iff_ne.mpr e).symm
theorem key_rr (a b : Str) : decide ((Sum.inr a : Key) = Sum.inr b) = decide (a = b) := by
  by_cases e : a = b
  · subst e; simp
  · have h : ¬ (Sum.inr a : Key) = Sum.inr b := fun q => e (Sum.inr.inj q)
    rw [decide_eq_false h, decide_eq_false e]
theorem key_lr (a : Int) (b : Str) : decide ((Sum.inl a : Key) = Sum.inr b) = false := decide_eq_false (fun q => nomatch q)
theorem key_rl (a : Str) (b : Int) : decide ((Sum.inr a : Key) = Sum.inl b) = false := decide_eq_false (fun q => nomatch q)

def mixKind (prog : Program) (w : World) : PySem.KeyKind prog w Key where
  is := keyIs
  hash := keyH w
  inj := fun v a b ha hb => by
    rcases keyIs_shape ha with ⟨i, t, rfl, rfl⟩ | ⟨x, t, rfl, rfl⟩
    · rcases keyIs_shape hb with ⟨j, u, rfl, e⟩ | ⟨y, u, rfl, e⟩
      · injection e with e1 _; rw [e1]
      · exact nomatch e
    · rcases keyIs_shape hb with ⟨j, u, rfl, e⟩ | ⟨y, u, rfl, e⟩
      · exact nomatch e
      · injection e with e1 _; rw [e1]
  byValue := fun k v h => by
    rcases keyIs_shape h with ⟨i, t, rfl, rfl⟩ | ⟨x, t, rfl, rfl⟩ <;> rfl
  pyHash := fun hv h => by
    rcases keyIs_shape hv with ⟨i, t, rfl, rfl⟩ | ⟨x, t, rfl, rfl⟩
    · exact wpAny_pyHash_int h
    · exact wpAny_pyHash_str h
  eqBool := fun hu hv h => by
    rcases keyIs_shape hu with ⟨i, t, rfl, rfl⟩ | ⟨x, t, rfl, rfl⟩
    · rcases keyIs_shape hv with ⟨j, u, rfl, rfl⟩ | ⟨y, u, rfl, rfl⟩
      · rw [key_ll] at h; exact wpAny_eqBool_int h
      · rw [key_lr] at h; exact SeqAt.EqAt.int_str i t y u _ _ _ _ h
    · rcases keyIs_shape hv with ⟨j, u, rfl, rfl⟩ | ⟨y, u, rfl, rfl⟩
      · rw [key_rl] at h; exact SeqAt.EqAt.str_int x t j u _ _ _ _ h
      · rw [key_rr] at h; exact wpAny_eqBool_str h
  «strs» := fun k x t v h => by
    rcases keyIs_shape h with ⟨i, u, rfl, e⟩ | ⟨y, u, rfl, e⟩
    · exact nomatch e
    · injection e with e1 _
      subst e1
      cases v <;> rfl

theorem mixKind_int (prog : Program) (w : World) (i : Int) (t : Tok) : (mixKind prog w).is (.inl i) (.int i t) = true := keyIs_int i t
theorem mixKind_str (prog : Program) (w : World) (x : Str) (t : Tok) : (mixKind prog w).is (.inr x) (.str x t) = true := keyIs_str x t
end L2

namespace L2
open PySem PySem.Spec PyProof.Rows

/-- a value, without the heap -/
inductive V where
  | non | bl (b : Bool) | int (i : Int) | str (x : Str) | byt (b : Array UInt8) | flt (b : UInt64) | ref (a : Addr) | ty (n : String)
  deriving DecidableEq

def RelV : V → Value → Prop
  | .non, u => u = Value.none
  | .bl b, u => u = Value.bool b
  | .int i, u => ∃ t, u = Value.int i t
  | .str x, u => ∃ t, u = Value.str x t
  | .byt b, u => ∃ t, u = Value.bytes b t
  | .flt b, u => ∃ t, u = Value.float b t
  | .ref a, u => u = Value.ref a
  | .ty n, u => u = Value.type n

abbrev Vals : List V → List Value → Prop := Paired RelV
theorem Vals.length {xs : List V} {us : List Value} (r : Vals xs us) : xs.length = us.length := Paired.length r
theorem Vals.get : ∀ {xs : List V} {us : List Value} {i : Nat} {x : V}, Vals xs us → xs[i]? = some x → ∃ u, us[i]? = some u ∧ RelV x u
  | _, _, _, _, .nil, e => by simp at e
  | _, _, 0, _, .cons r _, e => by simp at e; subst e; exact ⟨_, rfl, r⟩
  | _, _, i + 1, x, .cons _ t, e => by
    obtain ⟨u, h1, h2⟩ := Vals.get (i := i) (x := x) t (by simpa using e)
    exact ⟨u, by simpa using h1, h2⟩
theorem Vals.set {x : V} {u : Value} (r : RelV x u) : ∀ {xs : List V} {us : List Value} (i : Nat), Vals xs us → Vals (xs.set i x) (us.set i u)
  | _, _, _, .nil => .nil
  | _, _, 0, .cons _ t => .cons r t
  | _, _, i + 1, .cons q t => .cons q (Vals.set r i t)
theorem Vals.append : ∀ {xs ys : List V} {us ws : List Value}, Vals xs us → Vals ys ws → Vals (xs ++ ys) (us ++ ws)
  | _, _, _, _, .nil, s => s
  | _, _, _, _, .cons r t, s => .cons r (Vals.append t s)
theorem Vals.take : ∀ {xs : List V} {us : List Value} (n : Nat), Vals xs us → Vals (xs.take n) (us.take n)
  | _, _, 0, _ => .nil
  | _, _, _ + 1, .nil => .nil
  | _, _, n + 1, .cons r t => .cons r (Vals.take n t)
theorem Vals.drop : ∀ {xs : List V} {us : List Value} (n : Nat), Vals xs us → Vals (xs.drop n) (us.drop n)
  | _, _, 0, r => r
  | _, _, _ + 1, .nil => .nil
  | _, _, n + 1, .cons _ t => Vals.drop n t
def RelO : Option V → Option Value → Prop
  | some v, some u => RelV v u
  | none, none => True
  | _, _ => False
def KV {κ : Type} : List (κ × V) → List (κ × Value) → Prop := Paired fun (p : κ × V) (q : κ × Value) => p.1 = q.1 ∧ RelV p.2 q.2

/-- a key of a dict (00_mix): an int or a text -/
def kV : Key → V
  | .inl i => .int i
  | .inr x => .str x

/-- what stands at a tracked address -/
inductive HO where
  /-- a list -/
  | lst (xs : List V)
  /-- a tuple (never changes) -/
  | tup (xs : List V)
  /-- a dict whose keys are ints and texts; one whose keys are tuples of ints and texts (the empty one is both) -/
  | dK (kvs : List (Key × V)) | dT (kvs : List (List Key × V))
  /-- a set of ints: its members, its size -/
  | set (S : Int → Bool) (n : Nat)
  /-- an instance of the class at C, its dict at dx, its attributes -/
  | ins (C dx : Addr) (fs : List (Str × V))
  /-- the dict of the instance at x -/
  | own (x : Addr)
  /-- the dict of an exception -/
  | xd (fs : List (Str × V))
  /-- a bound method, f of x -/
  | met (f x : Addr)
  /-- a range object lo, lo + 1, .. below hi -/
  | rng (lo hi : Int)
  /-- a thing that is known to the object (the script; a dict while a loop walks it): read, never written while it is so -/
  | frz (o : Obj) (u : HO)
  /-- a code object's table -/
  | tbl (ps : Array Value)
  /-- any other thing, by what is true of its one object (a def of one's own: SetO a S n := HO.ext fun h => ..) -/
  | ext (φ : Heap → Prop)

abbrev Hp := Addr → Option HO
def upd (H : Hp) (a : Addr) (o : HO) : Hp := fun b => if b = a then some o else H b
theorem upd_same {H : Hp} {a : Addr} {o : HO} : upd H a o a = some o := by unfold upd; rw [if_pos rfl]
theorem upd_ne {H : Hp} {a b : Addr} {o : HO} (h : b ≠ a) : upd H a o b = H b := by unfold upd; rw [if_neg h]
/-- two objects of different content stand apart -/
theorem ne_of {H : Hp} {a b : Addr} {o u : HO} (h : H a = some o) (h' : H b = some u) (d : o ≠ u) : a ≠ b := by
  intro e; subst e; rw [h] at h'; exact d (Option.some.inj h')
theorem ne_of_none {H : Hp} {a b : Addr} {o : HO} (h : H a = some o) (h' : H b = none) : a ≠ b := by
  intro e; subst e; rw [h] at h'; cases h'

section
variable (P : Program) (w : World)
def ObjOk (H : Hp) (h : Heap) (a : Addr) : HO → Prop
  | .lst xs => xs.length ≤ sizeLine ∧ ∃ (its : List Value) (n : Nat), Vals xs its ∧ h.get? a = some { cls := .type "list", data := .seq its.toArray n }
  | .tup xs => xs.length ≤ sizeLine ∧ ∃ its : List Value, Vals xs its ∧ IsTup h a its.toArray
  | .dK kvs => kvs.length ≤ sizeLine ∧ (a == sysModules) = false ∧ ∃ vs, KV kvs vs ∧ h.DictOf (mixKind P w) a vs
  | .dT kvs => kvs.length ≤ sizeLine ∧ (a == sysModules) = false ∧ ∃ xs : List (List Key × Addr × Value),
      Paired (fun (p : List Key × V) (q : List Key × Addr × Value) => p.1 = q.1 ∧ H q.2.1 = some (.tup (p.1.map kV)) ∧ RelV p.2 q.2.2) kvs xs ∧
      ∃ o es ep, h.get? a = some o ∧ o.ExactDict ∧ o.data = .dict es ep ∧ es.toList = xs.map (entryOfKey (tupleKind (mixKind P w))) ∧ (xs.map (·.1)).Nodup
  | .set S n => h.SetOf (intKind P w) a S n
  | .ins C dx fs => H dx = some (.own a) ∧ fs.length ≤ 1000 ∧ dx ≠ a ∧ h.get? a = some (PySem.W.instObj C dx) ∧
      ∃ mA, h.Ns1 dx mA ∧ (∀ f, RelO (fs.lookup f) (mA f)) ∧ PySem.Within mA (fs.map (·.1))
  | .own _ => ∃ o, h.get? a = some o
  | .xd fs => ∃ mA, h.Ns1 a mA ∧ ∀ f, RelO (fs.lookup f) (mA f)
  | .rng lo hi => ∃ t u v, h.get? a = some { cls := .type "range", data := .fields #[.int lo t, .int hi u, .int 1 v] }
  | .frz o u => h.get? a = some o ∧ ObjOk H h a u
  | .tbl ps => h.get? a = some { cls := .none, data := .fields ps }
  | .met f x => h.get? a = some (PySem.W.methodObj (.ref f) (.ref x))
  | .ext φ => φ h ∧ (∃ o, h.get? a = some o) ∧ ∀ h1 h2 : Heap, φ h1 → (∀ o, h1.get? a = some o → h2.get? a = some o) → φ h2
/-- the abstract heap is held -/
def HOk (H : Hp) (h : Heap) : Prop := ∀ a o, H a = some o → ObjOk P w H h a o
end

section
variable {P : Program} {w : World} {H H' : Hp} {h h' : Heap} {a : Addr} {o : HO}
theorem ObjOk.lt (x : ObjOk P w H h a o) : a < h.objs.size := by
  cases o with
  | lst xs => obtain ⟨_, _, _, _, e⟩ := x; exact Heap.lt_size e
  | tup xs => obtain ⟨_, _, _, p⟩ := x; exact p.lt
  | dK kvs => obtain ⟨_, _, _, _, o, _, _, e, _⟩ := x; exact Heap.lt_size e
  | dT kvs => obtain ⟨_, _, _, _, o, _, _, e, _⟩ := x; exact Heap.lt_size e
  | set S n => obtain ⟨o, _, _, _, e, _⟩ := x; exact Heap.lt_size e
  | ins C dx fs => obtain ⟨_, _, _, e, _⟩ := x; exact Heap.lt_size e
  | own y => obtain ⟨_, e⟩ := x; exact Heap.lt_size e
  | xd fs => obtain ⟨_, ⟨_, _, _, e, _⟩, _⟩ := x; exact Heap.lt_size e
  | rng lo hi => obtain ⟨_, _, _, e⟩ := x; exact Heap.lt_size e
  | frz ob u => obtain ⟨e, _⟩ := x; exact Heap.lt_size e
  | tbl ps => exact Heap.lt_size (show h.get? a = some _ from x)
  | met f y => exact Heap.lt_size (show h.get? a = some _ from x)
  | ext φ => obtain ⟨_, ⟨_, e⟩, _⟩ := x; exact Heap.lt_size e
theorem Paired.mapP {α β : Type} {F G : α → β → Prop} : ∀ {l₁ : List α} {l₂ : List β}, Paired F l₁ l₂ → (∀ a b, F a b → G a b) → Paired G l₁ l₂
  | _, _, .nil, _ => .nil
  | _, _, .cons r t, f => .cons (f _ _ r) (Paired.mapP t f)
/-- what an object's description leans on: its own object, its own dict, the tuples -/
theorem ObjOk.stay (x : ObjOk P w H h a o) (k : ∀ b u, (b = a ∨ H b = some (.own a)) → h.get? b = some u → h'.get? b = some u)
    (ho : ∀ b, H b = some (.own a) → H' b = some (.own a)) (ht : ∀ b xs, H b = some (.tup xs) → H' b = some (.tup xs)) : ObjOk P w H' h' a o := by
  induction o with
  | lst xs => obtain ⟨z, its, n, r, e⟩ := x; exact ⟨z, its, n, r, k _ _ (.inl rfl) e⟩
  | tup xs => obtain ⟨z, its, r, ob, e, c⟩ := x; exact ⟨z, its, r, ob, k _ _ (.inl rfl) e, c⟩
  | dK kvs => obtain ⟨z, y, vs, r, ob, es, ep, e, c⟩ := x; exact ⟨z, y, vs, r, ob, es, ep, k _ _ (.inl rfl) e, c⟩
  | dT kvs =>
    obtain ⟨z, y, xs, r, ob, es, ep, e, c⟩ := x
    exact ⟨z, y, xs, Paired.mapP r fun p q z => ⟨z.1, ht _ _ z.2.1, z.2.2⟩, ob, es, ep, k _ _ (.inl rfl) e, c⟩
  | set S n => obtain ⟨ob, es, ep, t, e, c⟩ := x; exact ⟨ob, es, ep, t, k _ _ (.inl rfl) e, c⟩
  | ins C dx fs =>
    obtain ⟨d, z, ne, e, mA, ⟨od, es, ep, e2, c⟩, r⟩ := x
    exact ⟨ho _ d, z, ne, k _ _ (.inl rfl) e, mA, ⟨od, es, ep, k _ _ (.inr d) e2, c⟩, r⟩
  | own y => obtain ⟨ob, e⟩ := x; exact ⟨ob, k _ _ (.inl rfl) e⟩
  | xd fs => obtain ⟨mA, ⟨od, es, ep, e, c⟩, r⟩ := x; exact ⟨mA, ⟨od, es, ep, k _ _ (.inl rfl) e, c⟩, r⟩
  | rng lo hi => obtain ⟨t, u, v, e⟩ := x; exact ⟨t, u, v, k _ _ (.inl rfl) e⟩
  | frz ob u ih => obtain ⟨e, q⟩ := x; exact ⟨k _ _ (.inl rfl) e, ih q⟩
  | tbl ps =>
    have e : h.get? a = some { cls := .none, data := .fields ps } := x
    show h'.get? a = some { cls := .none, data := .fields ps }
    exact k a _ (.inl rfl) e
  | met f y =>
    have e : h.get? a = some (PySem.W.methodObj (.ref f) (.ref y)) := x
    show h'.get? a = some (PySem.W.methodObj (.ref f) (.ref y))
    exact k a _ (.inl rfl) e
  | ext φ => obtain ⟨p, ⟨o, e⟩, st⟩ := x; exact ⟨st _ _ p fun o q => k _ _ (.inl rfl) q, ⟨o, k _ _ (.inl rfl) e⟩, st⟩
theorem HOk.lt (x : HOk P w H h) (e : H a = some o) : a < h.objs.size := (x a o e).lt
theorem HOk.fresh (x : HOk P w H h) (e : h.objs.size ≤ a) : H a = none := by
  cases q : H a with
  | none => rfl
  | some u => exact absurd (Nat.lt_of_lt_of_le (x.lt q) e) (Nat.lt_irrefl _)
/-- every object of the heap is kept -/
theorem HOk.kept (x : HOk P w H h) (k : ∀ b u, h.get? b = some u → h'.get? b = some u) : HOk P w H h' := fun a o e =>
  (x a o e).stay (fun b u _ q => k b u q) (fun _ q => q) fun _ _ q => q
/-- a new object is laid and tracked -/
theorem HOk.laid (x : HOk P w H h) (k : ∀ b u, h.get? b = some u → h'.get? b = some u) (hp : h.objs.size ≤ a) (new : ObjOk P w (upd H a o) h' a o) : HOk P w (upd H a o) h' := fun b u e => by
  have hn := x.fresh hp
  by_cases hb : b = a
  · subst hb; rw [upd_same] at e; cases e; exact new
  · rw [upd_ne hb] at e
    exact (x b u e).stay (fun c v _ q => k c v q) (fun c q => by rw [upd_ne (ne_of_none q hn)]; exact q) fun c xs q => by rw [upd_ne (ne_of_none q hn)]; exact q
end

/-- what may be read as u: it is u, or a known u -/
def Rd (H : Hp) (a : Addr) (u : HO) : Prop := H a = some u ∨ ∃ o, H a = some (.frz o u)
theorem Rd.of {H : Hp} {a : Addr} {u : HO} (h : H a = some u) : Rd H a u := .inl h
theorem Rd.ok {P : Program} {w : World} {H : Hp} {h : Heap} {a : Addr} {u : HO} (r : Rd H a u) (x : HOk P w H h) : ObjOk P w H h a u := by
  rcases r with r | ⟨o, r⟩
  · exact x a u r
  · obtain ⟨_, q⟩ := x a _ r
    exact q
/-- what may be written -/
def Mut : Option HO → Prop
  | some (.lst _) => True
  | some (.dK _) => True
  | some (.dT _) => True
  | some (.set _ _) => True
  | some (.ins _ _ _) => True
  | some (.ext _) => True
  | _ => False
section
variable {P : Program} {w : World} {H : Hp} {h h' : Heap} {x e : Addr} {o' : HO}
/-- the object at e is changed: x itself, or the dict of the instance x -/
theorem HOk.write (ok : HOk P w H h) (mu : Mut (H x)) (he : e = x ∨ H e = some (.own x)) (k : ∀ b u, b ≠ e → h.get? b = some u → h'.get? b = some u) (heo : ∃ u, h'.get? e = some u)
    (new : ObjOk P w (upd H x o') h' x o') : HOk P w (upd H x o') h' := fun b u q => by
  have nown : ∀ c y, H c = some (.own y) → c ≠ x := fun c y r z => by subst z; rw [r] at mu; exact mu
  have ntup : ∀ c xs, H c = some (.tup xs) → c ≠ x := fun c xs r z => by subst z; rw [r] at mu; exact mu
  by_cases hb : b = x
  · subst hb; rw [upd_same] at q; cases q; exact new
  · rw [upd_ne hb] at q
    by_cases hbe : b = e
    · have q' : H b = some (.own x) := by
        rcases he with z | z
        · exact absurd (hbe.trans z) hb
        · rw [hbe]; exact z
      rw [q] at q'; cases q'
      obtain ⟨v, hv⟩ := heo
      exact ⟨v, by rw [hbe]; exact hv⟩
    · refine (ok b u q).stay (fun c v hc r => k c v ?_ r) (fun c r => by rw [upd_ne (nown c b r)]; exact r) fun c xs r => by rw [upd_ne (ntup c xs r)]; exact r
      rcases hc with rfl | hc
      · exact hbe
      · rintro rfl
        rcases he with z | z
        · exact nown c b hc z
        · rw [hc] at z; cases z; exact hb rfl
end

/-! ### kept unless tracked; of the frames at fs (the callers') the slots may change (an exception that passes writes there); of the records at ex (iterators) nothing is said -/
structure Un (fs ex : List Addr) (H H' : Hp) (h h' : Heap) : Prop where
  keep : ∀ b o, h.get? b = some o → H b = none → b ∉ fs → b ∉ ex → h'.get? b = some o
  slot : ∀ b o, h.get? b = some o → H b = none → b ∈ fs → b ∉ ex → ∃ sl, h'.get? b = some { o with slots := sl }
  free : ∀ b o, h.get? b = some o → H b = none → b ∉ ex → H' b = none
  there : ∀ b o, h.get? b = some o → b ∉ ex → ∃ o', h'.get? b = some o'
  tups : ∀ b xs, H b = some (.tup xs) → H' b = some (.tup xs)
  frzs : ∀ b o u, H b = some (.frz o u) → H' b = some (.frz o u)
  tbls : ∀ b ps, H b = some (.tbl ps) → ∃ more, H' b = some (.tbl (ps ++ more))
section
variable {fs fs' ex ex' : List Addr} {H H1 H2 : Hp} {h h1 h2 h' : Heap} {a x e : Addr} {o : HO}
theorem Un.any (u : Un fs ex H H1 h h1) {b : Addr} {ob : Obj} (q : h.get? b = some ob) (n : H b = none) (hx : b ∉ ex) : ∃ sl, h1.get? b = some { ob with slots := sl } := by
  by_cases hb : b ∈ fs
  · exact u.slot b ob q n hb hx
  · exact ⟨ob.slots, u.keep b ob q n hb hx⟩
theorem Un.trans (a : Un fs ex H H1 h h1) (b : Un fs ex H1 H2 h1 h2) : Un fs ex H H2 h h2 where
  keep := fun c ob q n hc hx => b.keep c ob (a.keep c ob q n hc hx) (a.free c ob q n hx) hc hx
  slot := fun c ob q n hc hx => by
    obtain ⟨sl, e1⟩ := a.slot c ob q n hc hx
    obtain ⟨sl', e2⟩ := b.slot c _ e1 (a.free c ob q n hx) hc hx
    exact ⟨sl', e2⟩
  free := fun c ob q n hx => by
    obtain ⟨o', e1⟩ := a.there c ob q hx
    exact b.free c o' e1 (a.free c ob q n hx) hx
  there := fun c ob q hx => by
    obtain ⟨o', e1⟩ := a.there c ob q hx
    exact b.there c o' e1 hx
  tups := fun c xs q => b.tups c xs (a.tups c xs q)
  frzs := fun c ob xs q => b.frzs c ob xs (a.frzs c ob xs q)
  tbls := fun c ps q => by
    obtain ⟨m1, e1⟩ := a.tbls c ps q
    obtain ⟨m2, e2⟩ := b.tbls c _ e1
    exact ⟨m1 ++ m2, by rw [e2, Array.append_assoc]⟩
theorem Un.kept (k : ∀ b u, h.get? b = some u → h'.get? b = some u) : Un fs ex H H h h' :=
  ⟨fun b ob q _ _ _ => k b ob q, fun b ob q _ _ _ => ⟨ob.slots, k b ob q⟩, fun _ _ _ n _ => n, fun b ob q _ => ⟨ob, k b ob q⟩, fun _ _ q => q, fun _ _ _ q => q, fun _ ps q => ⟨#[], by rw [q]; simp⟩⟩
theorem Un.refl : Un fs ex H H h h := Un.kept fun _ _ q => q
theorem Un.laid (k : ∀ b u, h.get? b = some u → h'.get? b = some u) (hp : h.objs.size ≤ a) (hn : H a = none) : Un fs ex H (upd H a o) h h' where
  keep := fun b u q _ _ _ => k b u q
  slot := fun b u q _ _ _ => ⟨u.slots, k b u q⟩
  free := fun b u q n _ => by rw [upd_ne (Nat.ne_of_lt (Nat.lt_of_lt_of_le (Heap.lt_size q) hp))]; exact n
  there := fun b u q _ => ⟨u, k b u q⟩
  tups := fun b xs q => by rw [upd_ne (ne_of_none q hn)]; exact q
  frzs := fun b u xs q => by rw [upd_ne (ne_of_none q hn)]; exact q
  tbls := fun b ps q => ⟨#[], by rw [upd_ne (ne_of_none q hn), q]; simp⟩
theorem Un.write (mu : Mut (H x)) (he : e = x ∨ H e = some (.own x)) (k : ∀ b u, b ≠ e → h.get? b = some u → h'.get? b = some u) (heo : ∃ u, h'.get? e = some u) : Un fs ex H (upd H x o) h h' := by
  have hx : ∀ b, H b = none → b ≠ x := fun b n z => by subst z; rw [n] at mu; exact mu
  have hb : ∀ b, H b = none → b ≠ e := fun b n z => by
    subst z
    rcases he with r | r
    · exact hx b n r
    · rw [n] at r; cases r
  have hm : ∀ b u, H b = some u → ¬ Mut (some u) → b ≠ x := fun b u q nm z => by subst z; rw [q] at mu; exact nm mu
  refine ⟨fun b u q n _ _ => k b u (hb b n) q, fun b u q n _ _ => ⟨u.slots, k b u (hb b n) q⟩, fun b u q n _ => by rw [upd_ne (hx b n)]; exact n, fun b u q _ => ?_,
    fun b xs q => by rw [upd_ne (hm b _ q fun z => z)]; exact q, fun b u xs q => by rw [upd_ne (hm b _ q fun z => z)]; exact q, fun b ps q => ⟨#[], by rw [upd_ne (hm b _ q fun z => z), q]; simp⟩⟩
  by_cases hbe : b = e
  · subst hbe; exact heo
  · exact ⟨u, k b u hbe q⟩
theorem Un.mono (u : Un fs ex H H1 h h1) (hs : ∀ b ∈ fs, b ∈ fs') (hx : ∀ b ∈ ex, b ∈ ex') : Un fs' ex' H H1 h h1 :=
  ⟨fun b ob q n hb he => u.keep b ob q n (fun z => hb (hs b z)) fun z => he (hx b z), fun _ _ q n _ he => u.any q n fun z => he (hx _ z), fun b ob q n he => u.free b ob q n fun z => he (hx b z), fun b ob q he => u.there b ob q fun z => he (hx b z), u.tups, u.frzs, u.tbls⟩
end

/-! ### the heap without what is tracked -/
def trk (h : Heap) (H : Hp) : List Addr := (List.range h.objs.size).filter fun a => (H a).isSome
def hidT (h : Heap) (H : Hp) : Heap := PySem.W.hideAll h (trk h H)
theorem hidT_size (h : Heap) (H : Hp) : (hidT h H).objs.size = h.objs.size := PySem.W.hideAll_size _ _
theorem hidT_get {h : Heap} {H : Hp} {b : Addr} {o : Obj} (e : h.get? b = some o) (n : H b = none) : (hidT h H).get? b = some o :=
  PySem.W.hideAll_get _ e fun hm => by
    have q : (H b).isSome = true := (List.mem_filter.mp hm).2
    rw [n] at q; simp at q
theorem of_hidT {h : Heap} {H : Hp} {b : Addr} {o : Obj} (e : (hidT h H).get? b = some o) : h.get? b = some o ∧ H b = none := by
  have e' : h.get? b = some o := PySem.W.of_hideAll (trk h H) e
  refine ⟨e', ?_⟩
  cases q : H b with
  | none => rfl
  | some x =>
    have hm : b ∈ trk h H := List.mem_filter.mpr ⟨List.mem_range.mpr (Heap.lt_size e'), by simp [q]⟩
    have z : (hidT h H).get? b = none := PySem.W.hideAll_none (trk h H) hm
    rw [z] at e; cases e

/-! ### OpenK's ledger, filled with every new object but one -/
def allNews (g h : Heap) (L : Addr) : List (Addr × Obj) := (List.range h.objs.size).filterMap fun a => if a = L ∨ (g.get? a).isSome = true then none else (h.get? a).map fun o => (a, o)
def rest (g h : Heap) (L d : Addr) : List (Addr × Obj) := (allNews g h L).filter fun p => decide (p.1 ≠ d)
end L2

namespace L2
open PySem PySem.Spec PyProof.Rows

/-- the module's facts, over the base: the heap at the law's entry without what is tracked there -/
structure Mod (K : PySem.W.Frag) (mg : Str → Option Value) (base : Heap) : Prop where
  kin : K.In base
  glob : base.Ns mainGlobals mg
  blt : ∃ mb, base.Ns builtinsNs mb ∧ ∀ x : Str, x ≠ "__name__" → mb x = bootBuiltins x
  nolimit : base.NoLimit

/-- the context: a def's body (or a comprehension's block) running. base: fixed through the whole law; s₀, H₀: the entry; outer: the frames whose slots others may change (a def's callers); stack: all frames that run;
   ex: iterators that were made ahead of the entry and are walked here (a comprehension's); fn: the names whose cells were made at the entry (a def: all; a comprehension's block: its own); calm: not within an except suite; pn: pins that every state bears; xe: what is wanted of an exception that leaves the code -/
structure Cx where
  prog : Program
  w : World
  K : PySem.W.Frag
  mg : Str → Option Value
  base : Heap
  A : Around
  N : List Str
  s₀ : Shared
  H₀ : Hp
  env : Env
  outer : List Env
  stack : List Env
  ex : List Addr
  fn : Str → Bool
  calm : Bool
  pn : List (Addr × Obj)
  xe : Value → Shared → Prop
/-- the callers' frames -/
def frs (l : List Env) : List Addr := l.filterMap (·.frame)
abbrev Cx.fs (X : Cx) : List Addr := frs X.outer

def Vis (sc : Scope) (x : Str) : Prop := sc.names.lookup x = some .local ∨ sc.names.lookup x = some .cell ∨ sc.names.lookup x = some .free
def Loc (sc : Scope) (x : Str) : Prop := sc.names.lookup x = some .local ∨ sc.names.lookup x = some .cell
def Look (env : Env) (h : Heap) (m : Str → Option Value) (x : Str) (u : Value) : Prop :=
  (env.kindOf x = some .local ∧ m x = some u) ∨ ((env.kindOf x = some .cell ∨ env.kindOf x = some .free) ∧ ∃ c, env.cells.lookup x = some c ∧ h.IsCell c (some u))

structure Cx.Ok (X : Cx) : Prop where
  mod : Mod X.K X.mg X.base
  kind : X.env.scope.kind = .function
  glob : X.env.globals = mainGlobals
  blt : X.env.builtins = builtinsNs
  above : X.s₀.heap.objs.size ≤ X.env.locals
  inj : ∀ x y c, X.env.cells.lookup x = some c → X.env.cells.lookup y = some c → x = y
  has : ∀ x, (X.env.kindOf x = some .cell ∨ X.env.kindOf x = some .free) → ∃ c, X.env.cells.lookup x = some c
  cab : ∀ x c, X.fn x = true → X.env.cells.lookup x = some c → X.s₀.heap.objs.size ≤ c
  hd : X.calm = true → X.A.handled = none
  frames : X.A.frames = some X.stack
  stk : X.stack = X.outer ∨ (X.stack = X.env :: X.outer ∧ X.env.frame = some X.env.locals)
  exf : ∀ b ∈ X.ex, b ≠ X.env.locals ∧ ∀ x c, X.env.cells.lookup x = some c → c ≠ b
  bs : ∀ b o, X.base.get? b = some o → X.s₀.heap.get? b = some o ∧ X.H₀ b = none
  bsz : X.base.objs.size ≤ X.s₀.heap.objs.size
  noex : ∀ b o, X.base.get? b = some o → b ∉ X.ex
  exfs : ∀ b ∈ X.ex, b ∉ X.fs
  funs : X.s₀.heap.FunFrames X.base X.outer
  frf : ∀ b ∈ X.fs, X.H₀ b = none

structure Inv (X : Cx) (pins : List (Addr × Obj)) (σ : List (Option V)) (H : Hp) (s : Shared) : Prop where
  ok : X.Ok
  os : s.os = X.s₀.os
  bare : AllBare s.gens
  base : Un X.fs X.ex X.H₀ H X.s₀.heap s.heap
  loc : ∃ m, s.heap.Ns X.env.locals m ∧ ∀ (i : Nat) (x : Str) (v : V), X.N[i]? = some x → σ[i]? = some (some v) → Vis X.env.scope x → ∃ u, RelV v u ∧ Look X.env s.heap m x u
  cell : ∀ x c, X.env.cells.lookup x = some c → ∃ v, s.heap.IsCell c v
  free : H X.env.locals = none
  freeC : ∀ x c, X.env.cells.lookup x = some c → H c = none
  pin : ∀ p ∈ X.pn ++ pins, s.heap.get? p.1 = some p.2 ∧ H p.1 = none ∧ p.1 ≠ X.env.locals ∧ p.1 ∉ X.fs ∧ ∀ v, p.2.data ≠ .cell v
  hok : HOk X.prog X.w H s.heap
  len : σ.length = X.N.length

section
variable {X : Cx} {pins : List (Addr × Obj)} {σ : List (Option V)} {H H' : Hp} {s : Shared} {h' : Heap}

theorem Cx.Ok.nofr (ok : X.Ok) {b : Addr} {o : Obj} (e : X.base.get? b = some o) : b ∉ X.fs := fun hb => by
  have := (ok.funs.mem hb).1
  rw [e] at this; cases this
theorem Inv.bs (I : Inv X pins σ H s) : ∀ b o, X.base.get? b = some o → s.heap.get? b = some o ∧ H b = none := fun b o e =>
  ⟨I.base.keep b o (I.ok.bs b o e).1 (I.ok.bs b o e).2 (I.ok.nofr e) (I.ok.noex b o e), I.base.free b o (I.ok.bs b o e).1 (I.ok.bs b o e).2 (I.ok.noex b o e)⟩
theorem Inv.bk (I : Inv X pins σ H s) : ∀ b o, X.base.get? b = some o → s.heap.get? b = some o := fun b o e => (I.bs b o e).1
theorem Inv.mod (I : Inv X pins σ H s) : Mod X.K X.mg X.base := I.ok.mod
theorem Inv.kIn (I : Inv X pins σ H s) : X.K.In s.heap := I.ok.mod.kin.keeps I.bk
theorem Inv.nolimit (I : Inv X pins σ H s) : s.heap.NoLimit := I.ok.mod.nolimit.keeps I.bk
theorem Inv.lt (I : Inv X pins σ H s) : X.env.locals < s.heap.objs.size := let ⟨_, hn, _⟩ := I.loc; hn.lt
theorem Inv.sz (I : Inv X pins σ H s) : X.s₀.heap.objs.size ≤ s.heap.objs.size := Nat.le_trans I.ok.above (Nat.le_of_lt I.lt)
theorem Inv.nofs (I : Inv X pins σ H s) {a : Addr} (h : s.heap.objs.size ≤ a) : a ∉ X.fs := fun hb => by
  obtain ⟨_, o, ho, _⟩ := I.ok.funs.mem hb
  exact absurd (Nat.lt_of_lt_of_le (Heap.lt_size ho) (Nat.le_trans I.sz h)) (Nat.lt_irrefl _)
theorem Inv.cne (I : Inv X pins σ H s) : ∀ x c, X.env.cells.lookup x = some c → c ≠ X.env.locals := fun x c e z => by
  obtain ⟨v, o, ho, hd⟩ := I.cell x c e
  obtain ⟨m, ⟨o', es, ep, ho', hd', _⟩, _⟩ := I.loc
  rw [z, ho'] at ho; cases ho; rw [hd'] at hd; cases hd
theorem Inv.funs (I : Inv X pins σ H s) : s.heap.FunFrames X.base X.outer := by
  have all : ∀ (l : List Env), (∀ b ∈ frs l, b ∈ X.fs) → X.s₀.heap.FunFrames X.base l → s.heap.FunFrames X.base l := by
    intro l
    induction l with
    | nil => intro _ _; trivial
    | cons env r ih =>
      intro hs hl
      obtain ⟨hk, ⟨L, o, hf, hn, ho, hd⟩, hr⟩ := hl
      have hL : L ∈ X.fs := hs L (by unfold frs; rw [List.filterMap_cons, hf]; exact List.mem_cons_self)
      obtain ⟨sl, e⟩ := I.base.slot L o ho (I.ok.frf L hL) hL fun z => I.ok.exfs L z hL
      exact ⟨hk, ⟨L, _, hf, hn, e, hd⟩, ih (fun b hb => hs b (by unfold frs; rw [List.filterMap_cons, hf]; exact List.mem_cons_of_mem _ hb)) hr⟩
  exact all X.outer (fun _ hb => hb) I.ok.funs

/-- the frames that run, for a call -/
theorem Inv.stack (I : Inv X pins σ H s) : s.heap.FunFrames X.base X.stack := by
  rcases I.ok.stk with e | ⟨e, hf⟩
  · rw [e]; exact I.funs
  · rw [e]
    obtain ⟨m, hn, _⟩ := I.loc
    refine .cons (by rw [I.ok.kind]; decide) hf hn ?_ I.funs
    exact Heap.get?_none_of_le (Nat.le_trans I.ok.bsz I.ok.above)
theorem Inv.stkSub (I : Inv X pins σ H s) : ∀ b ∈ frs X.stack, b ∈ X.env.locals :: X.fs := fun b hb => by
  rcases I.ok.stk with e | ⟨e, hf⟩
  · rw [e] at hb; exact List.mem_cons_of_mem _ hb
  · rw [e] at hb
    unfold frs at hb
    rw [List.filterMap_cons, hf] at hb
    exact hb
theorem Inv.stkFree (I : Inv X pins σ H s) : ∀ b ∈ frs X.stack, H b = none := fun b hb => by
  rcases List.mem_cons.mp (I.stkSub b hb) with e | hb
  · rw [e]; exact I.free
  · obtain ⟨_, o, ho, _⟩ := I.ok.funs.mem hb
    exact I.base.free b o ho (I.ok.frf b hb) fun z => I.ok.exfs b z hb

/-- THE STEP: the untracked objects but the frame and the records at ch are kept (the callers' frames up to slots), the frame's map is kept, the new abstract heap is held -/
theorem Inv.step {g' : Array GenState} {t' : Nat} {d' : Drawn} {ch : List Addr} (I : Inv X pins σ H s)
    (hch : ∀ b ∈ ch, (b ∈ X.ex ∨ X.s₀.heap.objs.size ≤ b) ∧ b ≠ X.env.locals ∧ (∀ x c, X.env.cells.lookup x = some c → c ≠ b) ∧ ∀ p ∈ X.pn ++ pins, p.1 ≠ b)
    (keep : ∀ b o, b ≠ X.env.locals → b ∉ X.fs → b ∉ ch → s.heap.get? b = some o → H b = none → h'.get? b = some o)
    (slot : ∀ b o, b ≠ X.env.locals → b ∈ X.fs → b ∉ ch → s.heap.get? b = some o → H b = none → ∃ sl, h'.get? b = some { o with slots := sl }) (free : ∀ b o, b ∉ ch → s.heap.get? b = some o → H b = none → H' b = none)
    (there : ∀ b o, b ∉ ch → s.heap.get? b = some o → ∃ o', h'.get? b = some o')
    (tups : ∀ b xs, H b = some (.tup xs) → H' b = some (.tup xs)) (frzs : ∀ b o u, H b = some (.frz o u) → H' b = some (.frz o u)) (tbls : ∀ b ps, H b = some (.tbl ps) → ∃ more, H' b = some (.tbl (ps ++ more)))
    (ns : ∀ m, s.heap.Ns X.env.locals m → h'.Ns X.env.locals m) (hok : HOk X.prog X.w H' h') (hg : AllBare g') :
    Inv X pins σ H' { s with heap := h', gens := g', drawn := d', toks := t' } := by
  have neL : ∀ b o, X.s₀.heap.get? b = some o → b ≠ X.env.locals := fun b o e => Nat.ne_of_lt (Nat.lt_of_lt_of_le (Heap.lt_size e) I.ok.above)
  have neC : ∀ b o, X.s₀.heap.get? b = some o → b ∉ X.ex → b ∉ ch := fun b o e hx hb => by
    rcases (hch b hb).1 with z | z
    · exact hx z
    · exact absurd (Nat.lt_of_lt_of_le (Heap.lt_size e) z) (Nat.lt_irrefl _)
  have cellK : ∀ x c, X.env.cells.lookup x = some c → ∀ v, s.heap.IsCell c v → h'.IsCell c v := fun x c e v ⟨o, ho, hd⟩ => by
    have nch : c ∉ ch := fun z => (hch c z).2.2.1 x c e rfl
    by_cases hc : c ∈ X.fs
    · obtain ⟨sl, q⟩ := slot c o (I.cne x c e) hc nch ho (I.freeC x c e)
      exact ⟨_, q, hd⟩
    · exact ⟨o, keep c o (I.cne x c e) hc nch ho (I.freeC x c e), hd⟩
  refine ⟨I.ok, I.os, hg, ⟨fun b o e n hb hx => ?_, fun b o e n hb hx => ?_, fun b o e n hx => ?_, fun b o e hx => ?_, fun b xs e => tups b xs (I.base.tups b xs e), fun b o xs e => frzs b o xs (I.base.frzs b o xs e), fun b ps e => ?_⟩, ?_, fun x c e => ?_, ?_, fun x c e => ?_, fun p hp => ?_, hok, I.len⟩
  · exact keep b o (neL b o e) hb (neC b o e hx) (I.base.keep b o e n hb hx) (I.base.free b o e n hx)
  · obtain ⟨sl, e1⟩ := I.base.slot b o e n hb hx
    obtain ⟨sl', e2⟩ := slot b _ (neL b o e) hb (neC b o e hx) e1 (I.base.free b o e n hx)
    exact ⟨sl', e2⟩
  · obtain ⟨o', e1⟩ := I.base.there b o e hx
    exact free b o' (neC b o e hx) e1 (I.base.free b o e n hx)
  · obtain ⟨o', e1⟩ := I.base.there b o e hx
    exact there b o' (neC b o e hx) e1
  · obtain ⟨m1, e1⟩ := I.base.tbls b ps e
    obtain ⟨m2, e2⟩ := tbls b _ e1
    exact ⟨m1 ++ m2, by rw [e2, Array.append_assoc]⟩
  · obtain ⟨m, hn, hl⟩ := I.loc
    refine ⟨m, ns m hn, fun i x v e1 e2 e3 => ?_⟩
    obtain ⟨u, r, l⟩ := hl i x v e1 e2 e3
    refine ⟨u, r, ?_⟩
    rcases l with l | ⟨k, c, e, z⟩
    · exact .inl l
    · exact .inr ⟨k, c, e, cellK x c e _ z⟩
  · obtain ⟨v, z⟩ := I.cell x c e
    exact ⟨v, cellK x c e v z⟩
  · obtain ⟨m, ⟨o, _, _, ho, _⟩, _⟩ := I.loc
    exact free _ o (fun z => (hch _ z).2.1 rfl) ho I.free
  · obtain ⟨v, o, ho, hd⟩ := I.cell x c e
    exact free c o (fun z => (hch c z).2.2.1 x c e rfl) ho (I.freeC x c e)
  · obtain ⟨e, n, ne, nf, d⟩ := I.pin p hp
    have nch : p.1 ∉ ch := fun z => (hch p.1 z).2.2.2 p hp rfl
    exact ⟨keep p.1 p.2 ne nf nch e n, free p.1 p.2 nch e n, ne, nf, d⟩
/-- .. where the frame's own object is kept too -/
theorem Inv.un {t' : Nat} (I : Inv X pins σ H s) (u : Un X.fs [] H H' s.heap h') (hok : HOk X.prog X.w H' h') : Inv X pins σ H' { s with heap := h', toks := t' } := by
  obtain ⟨m, ⟨o, es, ep, ho, r⟩, _⟩ := id I.loc
  obtain ⟨sl, hL⟩ := u.any ho I.free (by simp)
  exact I.step (g' := s.gens) (d' := s.drawn) (ch := []) (fun _ z => nomatch z) (fun b o _ hb _ e n => u.keep b o e n hb (by simp)) (fun b o _ hb _ e n => u.slot b o e n hb (by simp)) (fun b o _ e n => u.free b o e n (by simp)) (fun b o _ e => u.there b o e (by simp)) u.tups u.frzs u.tbls (fun m' hm => by
    obtain ⟨o', es', ep', ho', r'⟩ := hm
    rw [ho] at ho'; cases ho'
    exact ⟨_, es', ep', hL, r'⟩) hok I.bare
/-- behind a call (or a comprehension's block): the slots of this frame may have changed too, the records at ch may have turned -/
theorem Inv.call {g' : Array GenState} {t' : Nat} {d' : Drawn} {ch : List Addr} (I : Inv X pins σ H s) (u : Un (frs X.stack) ch H H' s.heap h') (hok : HOk X.prog X.w H' h') (hg : AllBare g')
    (hch : ∀ b ∈ ch, (b ∈ X.ex ∨ X.s₀.heap.objs.size ≤ b) ∧ b ≠ X.env.locals ∧ (∀ x c, X.env.cells.lookup x = some c → c ≠ b) ∧ ∀ p ∈ X.pn ++ pins, p.1 ≠ b) :
    Inv X pins σ H' { s with heap := h', gens := g', drawn := d', toks := t' } := by
  obtain ⟨m, ⟨o, es, ep, ho, r⟩, _⟩ := id I.loc
  obtain ⟨sl, hL⟩ := u.any ho I.free fun z => (hch _ z).2.1 rfl
  exact I.step (ch := ch) hch (fun b o hL hb hc e n => u.keep b o e n (fun z => (List.mem_cons.mp (I.stkSub b z)).elim hL hb) hc) (fun b o _ _ hc e n => u.any e n hc) (fun b o hc e n => u.free b o e n hc) (fun b o hc e => u.there b o e hc) u.tups u.frzs u.tbls (fun m' hm => by
    obtain ⟨o', es', ep', ho', r'⟩ := hm
    rw [ho] at ho'; cases ho'
    exact ⟨_, es', ep', hL, r'⟩) hok hg
/-- an untracked record of ours (an iterator) has turned -/
theorem Inv.turned {t' : Nat} {it : Addr} (I : Inv X pins σ H s) (k : ∀ b o, b ≠ it → s.heap.get? b = some o → h'.get? b = some o) (hn : H it = none) (hL : it ≠ X.env.locals)
    (h1 : it ∈ X.ex ∨ X.s₀.heap.objs.size ≤ it) (h2 : ∀ x c, X.env.cells.lookup x = some c → c ≠ it) (h3 : ∀ p ∈ X.pn ++ pins, p.1 ≠ it) : Inv X pins σ H { s with heap := h', toks := t' } := by
  have nit : ∀ b u, H b = some u → b ≠ it := fun b u e z => by rw [z, hn] at e; cases e
  refine I.step (g' := s.gens) (d' := s.drawn) (ch := [it]) (fun b hb => ?_) (fun b o _ _ hc e _ => k b o (fun z => hc (by simp [z])) e) (fun b o _ _ hc e _ => ⟨o.slots, k b o (fun z => hc (by simp [z])) e⟩) (fun _ _ _ _ n => n)
    (fun b o hc e => ⟨o, k b o (fun z => hc (by simp [z])) e⟩) (fun _ _ e => e) (fun _ _ _ e => e) (fun b ps e => ⟨#[], by rw [e]; simp⟩) (fun m hm => ?_) (fun b u e => ?_) I.bare
  · have e : b = it := by simpa using hb
    subst e
    exact ⟨h1, hL, h2, h3⟩
  · obtain ⟨o, es, ep, ho, r⟩ := hm
    exact ⟨o, es, ep, k _ o (Ne.symm hL) ho, r⟩
  · refine (I.hok b u e).stay (fun c v hc q => k c v ?_ q) (fun _ q => q) fun _ _ q => q
    rcases hc with z | z
    · rw [z]; exact nit b u e
    · exact nit c _ z
theorem Inv.tok (I : Inv X pins σ H s) (t : Nat) : Inv X pins σ H { s with toks := t } := I.un (h' := s.heap) (t' := t) Un.refl I.hok
/-- all objects kept -/
theorem Inv.kept {t' : Nat} (I : Inv X pins σ H s) (k : ∀ b u, s.heap.get? b = some u → h'.get? b = some u) : Inv X pins σ H { s with heap := h', toks := t' } := I.un (Un.kept k) (I.hok.kept k)
/-- a new object laid and tracked -/
theorem Inv.laid {a : Addr} {o : HO} {t' : Nat} (I : Inv X pins σ H s) (k : ∀ b u, s.heap.get? b = some u → h'.get? b = some u) (hp : s.heap.objs.size ≤ a) (new : ObjOk X.prog X.w (upd H a o) h' a o) :
    Inv X pins σ (upd H a o) { s with heap := h', toks := t' } := I.un (Un.laid k hp (I.hok.fresh hp)) (I.hok.laid k hp new)
/-- an object written -/
theorem Inv.write {x e : Addr} {o : HO} {t' : Nat} (I : Inv X pins σ H s) (mu : Mut (H x)) (he : e = x ∨ H e = some (.own x)) (k : ∀ b u, b ≠ e → s.heap.get? b = some u → h'.get? b = some u) (heo : ∃ u, h'.get? e = some u)
    (new : ObjOk X.prog X.w (upd H x o) h' x o) : Inv X pins σ (upd H x o) { s with heap := h', toks := t' } := I.un (Un.write mu he k heo) (I.hok.write mu he k heo new)
theorem Inv.pins_of {pins' : List (Addr × Obj)} (I : Inv X pins σ H s) (h : ∀ p ∈ pins', s.heap.get? p.1 = some p.2 ∧ H p.1 = none ∧ p.1 ≠ X.env.locals ∧ p.1 ∉ X.fs ∧ ∀ v, p.2.data ≠ .cell v) : Inv X pins' σ H s :=
  ⟨I.ok, I.os, I.bare, I.base, I.loc, I.cell, I.free, I.freeC, fun p hp => (List.mem_append.mp hp).elim (fun z => I.pin p (List.mem_append_left _ z)) (h p), I.hok, I.len⟩

theorem nodup_ix {N : List Str} (hN : N.Nodup) {i j : Nat} {x : Str} (a : N[i]? = some x) (b : N[j]? = some x) : i = j := by
  obtain ⟨h1, e1⟩ := List.getElem?_eq_some_iff.mp a
  obtain ⟨h2, e2⟩ := List.getElem?_eq_some_iff.mp b
  exact (List.getElem_inj hN).mp (e1.trans e2.symm)

/-- a name is stored; what changed -/
theorem store_ok2 {M : Model} {A : Around} {E : Value → Shared → Prop} {i : Nat} {x : Str} {v : V} {u : Value} {Q : Unit → Shared → Prop} (I : Inv X pins σ H s) (hN : X.N.Nodup) (hi : X.N[i]? = some x) (hx : Loc X.env.scope x) (r : RelV v u)
    (h : ∀ s', Inv X pins (σ.set i (some v)) H s' → (∃ a, Heap.SameBut a s.heap s'.heap ∧ (a = X.env.locals ∨ X.env.cells.lookup x = some a)) → Q () s') (hf : X.fn x = true ∨ X.env.scope.names.lookup x = some .local := by first | exact .inl rfl | exact .inr rfl | assumption) : wpAny M A (storeName X.env x u) Q E s := by
  obtain ⟨m, hn, hl⟩ := id I.loc
  have hcls : (X.env.scope.kind == .class || (X.env.scope.kind == .module && X.env.locals != X.env.globals)) = false := by rw [I.ok.kind]; rfl
  have hiσ : i < σ.length := by rw [I.len]; exact (List.getElem?_eq_some_iff.mp hi).1
  have cne := I.cne
  have tracked : ∀ {a : Addr} {h' : Heap}, (∃ o, s.heap.get? a = some o ∧ H a = none) → Heap.SameBut a s.heap h' → HOk X.prog X.w H h' := fun {a h'} ha hs b ob e => by
    obtain ⟨_, _, hfree⟩ := ha
    refine (I.hok b ob e).stay (fun c w' hc q => (hs.2 c ?_).trans q) (fun _ q => q) fun _ _ q => q
    rintro rfl
    rcases hc with rfl | hc
    · rw [hfree] at e; cases e
    · rw [hfree] at hc; cases hc
  rcases hx with hk | hk
  · refine wpAny_storeName_local hk hn (fun h' hn' hs => ?_) hcls
    obtain ⟨oL, _, _, hoL, _⟩ := id hn
    refine h _ ⟨I.ok, I.os, I.bare, ⟨fun b o e n hb hx => ?_, fun b o e n hb hx => ?_, I.base.free, fun b o e hx => ?_, I.base.tups, I.base.frzs, I.base.tbls⟩, ⟨_, hn', fun j y v' e1 e2 e3 => ?_⟩, fun y c e => ?_, I.free, I.freeC, fun p hp => ?_, tracked ⟨oL, hoL, I.free⟩ hs, by simpa using I.len⟩ ⟨_, hs, .inl rfl⟩
    · exact (hs.2 b (Nat.ne_of_lt (Nat.lt_of_lt_of_le (Heap.lt_size e) I.ok.above))).trans (I.base.keep b o e n hb hx)
    · obtain ⟨sl, e1⟩ := I.base.slot b o e n hb hx
      exact ⟨sl, (hs.2 b (Nat.ne_of_lt (Nat.lt_of_lt_of_le (Heap.lt_size e) I.ok.above))).trans e1⟩
    · obtain ⟨o', e1⟩ := I.base.there b o e hx
      exact ⟨o', (hs.2 b (Nat.ne_of_lt (Nat.lt_of_lt_of_le (Heap.lt_size e) I.ok.above))).trans e1⟩
    · by_cases hj : j = i
      · subst hj
        rw [hi] at e1; cases e1
        rw [List.getElem?_set_self hiσ] at e2
        cases e2
        exact ⟨u, r, .inl ⟨hk, by simp⟩⟩
      · rw [List.getElem?_set_ne (Ne.symm hj)] at e2
        obtain ⟨u', r', q⟩ := hl j y v' e1 e2 e3
        refine ⟨u', r', ?_⟩
        rcases q with ⟨k, e⟩ | ⟨k, c, e, z⟩
        · refine .inl ⟨k, ?_⟩
          have : y ≠ x := fun e => hj (nodup_ix hN e1 (e ▸ hi))
          simp [this, e]
        · exact .inr ⟨k, c, e, z.sameBut hs (cne y c e)⟩
    · obtain ⟨w', z⟩ := I.cell y c e
      exact ⟨w', z.sameBut hs (cne y c e)⟩
    · obtain ⟨e, n, ne, nf, d⟩ := I.pin p hp
      exact ⟨(hs.2 p.1 ne).trans e, n, ne, nf, d⟩
  · have hfn : X.fn x = true := by
      rcases hf with z | z
      · exact z
      · rw [z] at hk; cases hk
    obtain ⟨c, hc⟩ := I.ok.has x (.inl hk)
    obtain ⟨w', z⟩ := I.cell x c hc
    refine wpAny_storeName_cell I.ok.kind hk hc z (fun h' hc' hs => ?_)
    obtain ⟨oc, hoc, hocd⟩ := id z
    refine h { s with heap := h' } ⟨I.ok, I.os, I.bare, ⟨fun b o e n hb hx => ?_, fun b o e n hb hx => ?_, I.base.free, fun b o e hx => ?_, I.base.tups, I.base.frzs, I.base.tbls⟩, ⟨m, hn.sameBut hs (Ne.symm (cne x c hc)), fun j y v' e1 e2 e3 => ?_⟩, fun y c' e => ?_, I.free, I.freeC, fun p hp => ?_, tracked ⟨oc, hoc, I.freeC x c hc⟩ hs, by simpa using I.len⟩ ⟨c, hs, .inr hc⟩
    · exact (hs.2 b (Nat.ne_of_lt (Nat.lt_of_lt_of_le (Heap.lt_size e) (I.ok.cab x c hfn hc)))).trans (I.base.keep b o e n hb hx)
    · obtain ⟨sl, e1⟩ := I.base.slot b o e n hb hx
      exact ⟨sl, (hs.2 b (Nat.ne_of_lt (Nat.lt_of_lt_of_le (Heap.lt_size e) (I.ok.cab x c hfn hc)))).trans e1⟩
    · obtain ⟨o', e1⟩ := I.base.there b o e hx
      exact ⟨o', (hs.2 b (Nat.ne_of_lt (Nat.lt_of_lt_of_le (Heap.lt_size e) (I.ok.cab x c hfn hc)))).trans e1⟩
    · by_cases hj : j = i
      · subst hj
        rw [hi] at e1; cases e1
        rw [List.getElem?_set_self hiσ] at e2
        cases e2
        exact ⟨u, r, .inr ⟨.inl hk, c, hc, hc'⟩⟩
      · rw [List.getElem?_set_ne (Ne.symm hj)] at e2
        obtain ⟨u', r', q⟩ := hl j y v' e1 e2 e3
        refine ⟨u', r', ?_⟩
        rcases q with q | ⟨k, c', e, z'⟩
        · exact .inl q
        · refine .inr ⟨k, c', e, z'.sameBut hs ?_⟩
          rintro rfl
          exact hj (nodup_ix hN e1 (I.ok.inj _ _ _ e hc ▸ hi))
    · by_cases hcc : c' = c
      · subst hcc; exact ⟨_, hc'⟩
      · obtain ⟨w2, z2⟩ := I.cell y c' e
        exact ⟨w2, z2.sameBut hs hcc⟩
    · obtain ⟨e, n, ne, nf, d⟩ := I.pin p hp
      refine ⟨(hs.2 p.1 ?_).trans e, n, ne, nf, d⟩
      intro q
      rw [q, hoc] at e
      have q' : oc = p.2 := Option.some.inj e
      exact d w' (by rw [← q']; exact hocd)
theorem store_ok {M : Model} {A : Around} {E : Value → Shared → Prop} {i : Nat} {x : Str} {v : V} {u : Value} {Q : Unit → Shared → Prop} (I : Inv X pins σ H s) (hN : X.N.Nodup) (hi : X.N[i]? = some x) (hx : Loc X.env.scope x) (r : RelV v u)
    (h : ∀ s', Inv X pins (σ.set i (some v)) H s' → Q () s') (hf : X.fn x = true ∨ X.env.scope.names.lookup x = some .local := by first | exact .inl rfl | exact .inr rfl | assumption) : wpAny M A (storeName X.env x u) Q E s :=
  store_ok2 I hN hi hx r (fun s' I' _ => h s' I') hf
/-- behind a call or a block, the state as it is -/
theorem Inv.call' {s' : Shared} {ch : List Addr} (I : Inv X pins σ H s) (ho : s'.os = s.os) (u : Un (frs X.stack) ch H H' s.heap s'.heap) (hok : HOk X.prog X.w H' s'.heap) (hg : AllBare s'.gens)
    (hch : ∀ b ∈ ch, (b ∈ X.ex ∨ X.s₀.heap.objs.size ≤ b) ∧ b ≠ X.env.locals ∧ (∀ x c, X.env.cells.lookup x = some c → c ≠ b) ∧ ∀ p ∈ X.pn ++ pins, p.1 ≠ b) : Inv X pins σ H' s' := by
  obtain ⟨h', g', d', t', o'⟩ := s'
  have e : o' = s.os := ho
  subst e
  exact I.call (g' := g') (t' := t') (d' := d') u hok hg hch
end

/-! ### the judgements -/
/-- an exception: its class, its own dict's address (where it has one), the abstract heap behind it -/
abbrev XK := Value → Option Addr → Hp → Prop
abbrev St := List (Option V)
abbrev VK := V → Hp → Prop
/-- an expression's reading; a test's; an argument list's -/
abbrev TE := St → Hp → VK → Prop
abbrev TT := St → Hp → (Bool → Hp → Prop) → Prop
abbrev TA := St → Hp → (List V → Hp → Prop) → Prop
/-- what is wanted behind a statement -/
structure Ends where
  nx : St → Hp → Prop
  rt : VK
  bk : St → Hp → Prop := fun _ _ => False
  ct : St → Hp → Prop := fun _ _ => False
abbrev TS := Ends → St → Hp → Prop

def EP (X : Cx) (pins : List (Addr × Obj)) (σ : St) (Q : VK) (u : Value) (s' : Shared) : Prop := ∃ v H', Inv X pins σ H' s' ∧ RelV v u ∧ Q v H'
def TP (X : Cx) (pins : List (Addr × Obj)) (σ : St) (Q : Bool → Hp → Prop) (b : Bool) (s' : Shared) : Prop := ∃ H', Inv X pins σ H' s' ∧ Q b H'
def AP (X : Cx) (pins : List (Addr × Obj)) (σ : St) (Q : List V → Hp → Prop) (us : List Value) (s' : Shared) : Prop := ∃ vs H', Inv X pins σ H' s' ∧ Vals vs us ∧ Q vs H'
def SP (X : Cx) (pins : List (Addr × Obj)) (D : Ends) (f : Flow) (s' : Shared) : Prop :=
  match f with
  | .next => ∃ σ' H', Inv X pins σ' H' s' ∧ D.nx σ' H'
  | .brk => ∃ σ' H', Inv X pins σ' H' s' ∧ D.bk σ' H'
  | .cont => ∃ σ' H', Inv X pins σ' H' s' ∧ D.ct σ' H'
  | .ret u => ∃ v σ' H', Inv X pins σ' H' s' ∧ RelV v u ∧ D.rt v H'

def PE (X : Cx) (e : Expr) (t : TE) : Prop :=
  ∀ (pins : List (Addr × Obj)) (s : Shared) (σ : St) (H : Hp) (Q : VK), Inv X pins σ H s → t σ H Q → wpAny (model X.prog X.w) X.A (eval e X.env) (EP X pins σ Q) X.xe s
def PT (X : Cx) (e : Expr) (t : TT) : Prop :=
  ∀ (pins : List (Addr × Obj)) (s : Shared) (σ : St) (H : Hp) (Q : Bool → Hp → Prop), Inv X pins σ H s → t σ H Q → wpAny (model X.prog X.w) X.A (isTrue e X.env (eval e X.env)) (TP X pins σ Q) X.xe s
/-- a test whatever its 'whole' is (and, or) -/
def PW (X : Cx) (e : Expr) (t : TT) : Prop :=
  ∀ (whole : Sem Value) (pins : List (Addr × Obj)) (s : Shared) (σ : St) (H : Hp) (Q : Bool → Hp → Prop), Inv X pins σ H s → t σ H Q → wpAny (model X.prog X.w) X.A (isTrue e X.env whole) (TP X pins σ Q) X.xe s
theorem PW.pt {X : Cx} {e : Expr} {t : TT} (h : PW X e t) : PT X e t := h _
/-- an argument list (no star), from the left -/
def PA (X : Cx) (es : List Expr) (t : TA) : Prop :=
  ∀ (pos : Pos) (pins : List (Addr × Obj)) (s : Shared) (σ : St) (H : Hp) (Q : List V → Hp → Prop), Inv X pins σ H s → t σ H Q → wpAny (model X.prog X.w) X.A (spliced (backTo pos (starEach es X.env))) (AP X pins σ Q) X.xe s
def PS (X : Cx) (st : Stmt) (t : TS) : Prop :=
  ∀ (pins : List (Addr × Obj)) (s : Shared) (σ : St) (H : Hp) (D : Ends), Inv X pins σ H s → t D σ H → wpAny (model X.prog X.w) X.A (exec st X.env) (SP X pins D) X.xe s
def PSs (X : Cx) (st : List Stmt) (t : TS) : Prop :=
  ∀ (pins : List (Addr × Obj)) (s : Shared) (σ : St) (H : Hp) (D : Ends), Inv X pins σ H s → t D σ H → wpAny (model X.prog X.w) X.A (execs st X.env) (SP X pins D) X.xe s
/-- weaken the end -/
theorem thn {α : Type} {t : Sem α} {Q Q' : α → Shared → Prop} {M : Model} {A : Around} {E : Value → Shared → Prop} {s : Shared} (h : wpAny M A t Q E s) (hQ : ∀ a s, Q a s → Q' a s) : wpAny M A t Q' E s := wpAny_mono h hQ fun _ _ x => x
end L2

namespace L2
open PySem PySem.Spec PyProof.Rows
section
variable {X : Cx}

/-! ### names and constants -/
def tVar (i : Nat) : TE := fun σ H Q => ∃ v, σ[i]? = some (some v) ∧ Q v H
def tC (v : V) : TE := fun _ H Q => Q v H
theorem pe_var {i : Nat} {x : Str} {pos : Pos} (hN : X.N[i]? = some x) (hv : Vis X.env.scope x) (hd : (x == ("__debug__" : Str)) = false := by decide) (hcd : (x == ("__classdict__" : Str)) = false := by decide) : PE X (.Name x pos) (tVar i) := by
  intro pins s σ H Q I h
  obtain ⟨v, e, h⟩ := h
  obtain ⟨m, hn, hl⟩ := I.loc
  obtain ⟨u, r, l⟩ := hl i x v hN e hv
  have fin : EP X pins σ Q u s := ⟨v, H, I, r, h⟩
  rcases l with ⟨hk, hm⟩ | ⟨hk, c, hc, hcell⟩
  · exact wpAny_Name (wpAny_loadName_local I.ok.kind hk hn hm fin) hd
  · rcases hk with hk | hk
    · exact wpAny_Name (wpAny_loadName_cell I.ok.kind hk hc hcell fin) hd
    · exact wpAny_Name (wpAny_loadName_free I.ok.kind hk hc hcell fin hcd) hd
theorem pe_int {i j pos} : PE X (.Constant (.int i) j pos) (tC (.int i)) := fun _ _ _ H _ I h => wpAny_Constant_int ⟨.int i, H, I.tok _, ⟨_, rfl⟩, h⟩
theorem pe_bl {b j pos} : PE X (.Constant (.bool b) j pos) (tC (.bl b)) := fun _ _ _ H _ I h => Constant_bool ⟨.bl b, H, I, rfl, h⟩
theorem pe_non {j pos} : PE X (.Constant .none j pos) (tC .non) := fun _ _ _ H _ I h => Constant_none ⟨.non, H, I, rfl, h⟩
/-- a global name of the def -/
def Gl (X : Cx) (x : Str) : Prop := X.env.kindOf x = some .globalImplicit
theorem ld_glob {E : Value → Shared → Prop} {pins : List (Addr × Obj)} {s : Shared} {σ : St} {H : Hp} {x : Str} {u : Value} {pos : Pos} {Q : Value → Shared → Prop} (I : Inv X pins σ H s) (hg : Gl X x) (hm : X.mg x = some u) (h : Q u s)
    (hd : (x == ("__debug__" : Str)) = false := by decide) : wpAny (model X.prog X.w) X.A (eval (.Name x pos) X.env) Q E s :=
  Calls.Name_function_global I.ok.kind hg (Calls.loadGlobal_global (by rw [I.ok.glob]; exact I.mod.glob.keeps I.bk) hm h) hd
theorem ld_blt {E : Value → Shared → Prop} {pins : List (Addr × Obj)} {s : Shared} {σ : St} {H : Hp} {x : Str} {u : Value} {pos : Pos} {Q : Value → Shared → Prop} (I : Inv X pins σ H s) (hg : Gl X x) (hm : X.mg x = none) (hv : bootBuiltins x = some u) (h : Q u s)
    (hn : x ≠ "__name__" := by decide) (hd : (x == ("__debug__" : Str)) = false := by decide) : wpAny (model X.prog X.w) X.A (eval (.Name x pos) X.env) Q E s := by
  obtain ⟨mb, h1, h2⟩ := I.mod.blt
  exact Calls.Name_function_global I.ok.kind hg (Calls.loadGlobal_builtin (by rw [I.ok.glob]; exact I.mod.glob.keeps I.bk) hm (by rw [I.ok.blt]; exact h1.keeps I.bk) ((h2 x hn).trans hv) h) hd
theorem pe_bltn {x : Str} {v : V} {u : Value} {pos : Pos} (hg : Gl X x) (hm : X.mg x = none) (hv : bootBuiltins x = some u) (r : RelV v u) (hn : x ≠ "__name__" := by decide) (hd : (x == ("__debug__" : Str)) = false := by decide) : PE X (.Name x pos) (tC v) :=
  fun _ _ _ H _ I h => ld_blt I hg hm hv ⟨v, H, I, r, h⟩ hn hd

/-! ### arithmetic -/
variable {a b : Expr} {ta tb : TE} {pos : Pos}
/-! ### comparisons -/
def PC (X : Cx) (op : CmpOp) (a b : Expr) (t : TE) : Prop :=
  ∀ (pins : List (Addr × Obj)) (s : Shared) (σ : St) (H : Hp) (Q : VK), Inv X pins σ H s → t σ H Q →
    wpAny (model X.prog X.w) X.A (eval a X.env) (fun v s₁ => wpAny (model X.prog X.w) X.A (eval b X.env) (fun u s₂ => wpAny (model X.prog X.w) X.A (compareOp op v u) (EP X pins σ Q) X.xe s₂) X.xe s₁) X.xe s
theorem nobehind (b : Expr) {op : CmpOp} (h : op ≠ .In) (h2 : op ≠ .NotIn) : behindInMarks op b = false := by
  have e1 : (op == CmpOp.In) = false := by cases op <;> first | rfl | exact absurd rfl h
  have e2 : (op == CmpOp.NotIn) = false := by cases op <;> first | rfl | exact absurd rfl h2
  cases b <;> simp [behindInMarks, e1, e2]
/-- a comparison as a value, as a test -/
def tB (t : TE) : TT := fun σ H Q => t σ H fun x H1 => ∃ c, x = .bl c ∧ Q c H1
theorem pe_cmp {op : CmpOp} {t : TE} (h : PC X op a b t) (h1 : behindInMarks op b = false := by first | exact nobehind _ (by decide) (by decide) | rfl) : PE X (.Compare a [op] [b] pos) t := fun pins s σ H Q I hw => wpAny_Compare1 (h pins s σ H Q I hw) h1
theorem pt_cmp {op : CmpOp} {t : TE} (h : PC X op a b t) (h1 : behindInMarks op b = false := by first | exact nobehind _ (by decide) (by decide) | rfl) : PT X (.Compare a [op] [b] pos) (tB t) := by
  intro pins s σ H Q I hw
  refine wpAny_isTrue_Compare1 (thn (h pins s σ H _ I hw) fun v s1 h1 => thn h1 fun u s2 h2 => thn h2 fun c s3 ⟨x, H1, I1, r1, q1⟩ => ?_) h1
  obtain ⟨d, rfl, q⟩ := q1
  cases r1
  exact wpAny_truthy_bool ⟨H1, I1, q⟩
/-- an expression whose value is a bool, as a test -/
theorem pt_val {e : Expr} {t : TE} (h : PE X e t) (he : ∀ whole, isTrue e X.env whole = (do let v ← whole; standAt e.pos; holding [v] (truthy v)) := by intro _; rfl) : PT X e (tB t) := by
  intro pins s σ H Q I hw
  refine isTrue_plain (thn (h pins s σ H _ I hw) fun v s1 ⟨x, H1, I1, r1, q1⟩ => ?_) (he _)
  obtain ⟨d, rfl, q⟩ := q1
  cases r1
  exact wpAny_truthy_bool ⟨H1, I1, q⟩

/-! ### and, or, not -/
variable {tA tB' : TT} {rest : List Expr}
def tAnd (t u : TT) : TT := fun σ H Q => t σ H fun c H1 => if c = true then u σ H1 Q else Q false H1
def tOr (t u : TT) : TT := fun σ H Q => t σ H fun c H1 => if c = true then Q true H1 else u σ H1 Q
def tNot (t : TT) : TT := fun σ H Q => t σ H fun c H1 => Q (!c) H1
theorem pw_and1 (ha : PT X a tA) : PW X (.BoolOp .And [a] pos) tA := by
  intro wh pins s σ H Q I h
  refine isTrue_and (thn (ha pins s σ H Q I h) fun c s1 e => ?_)
  cases c with
  | true => exact isTrue_and_nil e
  | false => exact e
theorem pw_or1 (ha : PT X a tA) : PW X (.BoolOp .Or [a] pos) tA := by
  intro wh pins s σ H Q I h
  refine isTrue_or (thn (ha pins s σ H Q I h) fun c s1 e => ?_)
  cases c with
  | false => exact isTrue_or_nil e
  | true => exact e
theorem pw_and (ha : PT X a tA) (hb : PW X (.BoolOp .And (b :: rest) pos) tB') : PW X (.BoolOp .And (a :: b :: rest) pos) (tAnd tA tB') := by
  intro wh pins s σ H Q I h
  refine isTrue_and (thn (ha pins s σ H _ I h) fun c s1 ⟨H1, I1, q1⟩ => ?_)
  cases c with
  | true => exact hb wh pins s1 σ H1 Q I1 q1
  | false => exact ⟨H1, I1, q1⟩
theorem pw_or (ha : PT X a tA) (hb : PW X (.BoolOp .Or (b :: rest) pos) tB') : PW X (.BoolOp .Or (a :: b :: rest) pos) (tOr tA tB') := by
  intro wh pins s σ H Q I h
  refine isTrue_or (thn (ha pins s σ H _ I h) fun c s1 ⟨H1, I1, q1⟩ => ?_)
  cases c with
  | true => exact ⟨H1, I1, q1⟩
  | false => exact hb wh pins s1 σ H1 Q I1 q1
theorem pt_not (ha : PT X a tA) : PT X (.UnaryOp .Not a pos) (tNot tA) := by
  intro pins s σ H Q I h
  exact isTrue_not (ha pins s σ H (fun c H1 => Q (!c) H1) I h)
/-- .. as values (bools) -/
def tAndV (ta tb : TE) : TE := fun σ H Q => ta σ H fun x H1 => ∃ c, x = .bl c ∧ if c = true then tb σ H1 Q else Q (.bl false) H1
def tOrV (ta tb : TE) : TE := fun σ H Q => ta σ H fun x H1 => ∃ c, x = .bl c ∧ if c = true then Q (.bl true) H1 else tb σ H1 Q
def tNotV (ta : TE) : TE := fun σ H Q => ta σ H fun x H1 => ∃ c, x = .bl c ∧ Q (.bl (!c)) H1
theorem pe_one {op} {t : TE} (h : PE X a t) : PE X (.BoolOp op [a] pos) t := fun pins s σ H Q I hw => BoolOp_one (h pins s σ H Q I hw)
theorem pe_and (ha : PE X a ta) (hb : PE X (.BoolOp .And (b :: rest) pos) tb) : PE X (.BoolOp .And (a :: b :: rest) pos) (tAndV ta tb) := by
  intro pins s σ H Q I h
  refine BoolOp_and (thn (ha pins s σ H _ I h) fun v s1 ⟨x, H1, I1, r1, q1⟩ => ?_)
  obtain ⟨c, rfl, q1⟩ := q1
  cases r1
  refine wpAny_truthy_bool ?_
  cases c with
  | true => exact hb pins s1 σ H1 Q I1 q1
  | false => exact ⟨.bl false, H1, I1, rfl, q1⟩
theorem pe_or (ha : PE X a ta) (hb : PE X (.BoolOp .Or (b :: rest) pos) tb) : PE X (.BoolOp .Or (a :: b :: rest) pos) (tOrV ta tb) := by
  intro pins s σ H Q I h
  refine BoolOp_or (thn (ha pins s σ H _ I h) fun v s1 ⟨x, H1, I1, r1, q1⟩ => ?_)
  obtain ⟨c, rfl, q1⟩ := q1
  cases r1
  refine wpAny_truthy_bool ?_
  cases c with
  | false => exact hb pins s1 σ H1 Q I1 q1
  | true => exact ⟨.bl true, H1, I1, rfl, q1⟩
theorem pe_not (ha : PE X a ta) : PE X (.UnaryOp .Not a pos) (tNotV ta) := by
  intro pins s σ H Q I h
  refine UnaryOp_ (thn (ha pins s σ H _ I h) fun v s1 ⟨x, H1, I1, r1, q1⟩ => ?_)
  obtain ⟨c, rfl, q1⟩ := q1
  cases r1
  exact not_of (wpAny_truthy_bool ⟨.bl (!c), H1, I1, rfl, q1⟩)
/-- a if t else b -/
def tIf (t : TT) (ta tb : TE) : TE := fun σ H Q => t σ H fun c H1 => if c = true then ta σ H1 Q else tb σ H1 Q
theorem pe_ifExp {c : Expr} (hc : PT X c tA) (ha : PE X a ta) (hb : PE X b tb) : PE X (.IfExp c a b pos) (tIf tA ta tb) := by
  intro pins s σ H Q I h
  refine wpAny_IfExp (thn (hc pins s σ H _ I h) fun d s1 ⟨H1, I1, q1⟩ => ?_)
  cases d with
  | true => exact ha pins s1 σ H1 Q I1 q1
  | false => exact hb pins s1 σ H1 Q I1 q1
end
end L2

namespace L2
open PySem PySem.Spec PyProof.Rows

/-! ### a list, a tuple that is read: tracked, frozen, or an object of the module -/
def SqL (K : PySem.W.Frag) (H : Hp) (a : Addr) (xs : List V) : Prop :=
  Rd H a (.lst xs) ∨
    ∃ (o : Obj) (its : Array Value) (n : Nat), K.lookup a = some o ∧ o.cls = .type "list" ∧ o.dict = none ∧ o.data = .seq its n ∧ its.size ≤ sizeLine ∧ Vals xs its.toList
def SqT (K : PySem.W.Frag) (H : Hp) (a : Addr) (xs : List V) : Prop :=
  Rd H a (.tup xs) ∨
    ∃ (o : Obj) (its : Array Value) (n : Nat), K.lookup a = some o ∧ o.cls = .type "tuple" ∧ o.data = .seq its n ∧ its.size ≤ sizeLine ∧ Vals xs its.toList
def absV : Value → Option V
  | .none => some .non
  | .bool b => some (.bl b)
  | .int i _ => some (.int i)
  | .str x _ => some (.str x)
  | .bytes b _ => some (.byt b)
  | .float b _ => some (.flt b)
  | .ref a => some (.ref a)
  | .type n => some (.ty n)
  | _ => none
theorem RelV.abs {x : V} {u : Value} (r : RelV x u) : absV u = some x := by
  cases x with
  | non => cases r; rfl
  | bl _ => cases r; rfl
  | int _ => obtain ⟨t, rfl⟩ := r; rfl
  | str _ => obtain ⟨t, rfl⟩ := r; rfl
  | byt _ => obtain ⟨t, rfl⟩ := r; rfl
  | flt _ => obtain ⟨t, rfl⟩ := r; rfl
  | ref _ => cases r; rfl
  | ty _ => cases r; rfl
theorem RelV.inj {x y : V} {u : Value} (r : RelV x u) (q : RelV y u) : x = y := Option.some.inj (r.abs.symm.trans q.abs)
theorem Vals.inj : ∀ {xs ys : List V} {us : List Value}, Vals xs us → Vals ys us → xs = ys
  | _, _, _, .nil, .nil => rfl
  | _, _, _, .cons r t, .cons r' t' => by rw [r.inj r', Vals.inj t t']
section
variable {X : Cx} {pins : List (Addr × Obj)} {σ : St} {H : Hp} {s : Shared} {a : Addr} {xs ys : List V}
theorem SqL.of {K : PySem.W.Frag} (h : H a = some (.lst xs)) : SqL K H a xs := .inl (.inl h)
theorem SqT.of {K : PySem.W.Frag} (h : H a = some (.tup xs)) : SqT K H a xs := .inl (.inl h)
theorem Inv.list (I : Inv X pins σ H s) (h : SqL X.K H a xs) : ∃ its : List Value, Vals xs its ∧ PlainL s.heap a its.toArray ∧ xs.length ≤ sizeLine := by
  rcases h with h | ⟨o, its, n, hk, hc, hd, hs, hz, r⟩
  · obtain ⟨z, its, n, r, e⟩ := h.ok I.hok
    exact ⟨its, r, ⟨_, n, e, rfl, rfl, rfl⟩, z⟩
  · refine ⟨its.toList, r, ⟨o, n, I.kIn a o hk, hc, hd, by simpa using hs⟩, ?_⟩
    have e := r.length
    simp only [Array.length_toList] at e
    omega
theorem Inv.tuple (I : Inv X pins σ H s) (h : SqT X.K H a xs) : ∃ its : List Value, Vals xs its ∧ IsTup s.heap a its.toArray ∧ xs.length ≤ sizeLine := by
  rcases h with h | ⟨o, its, n, hk, hc, hs, hz, r⟩
  · obtain ⟨z, its, r, p⟩ := h.ok I.hok
    exact ⟨its, r, p, z⟩
  · refine ⟨its.toList, r, ⟨o, I.kIn a o hk, hc, n, by simpa using hs⟩, ?_⟩
    have e := r.length
    simp only [Array.length_toList] at e
    omega
theorem Inv.list_inj (I : Inv X pins σ H s) (h : SqL X.K H a xs) (h' : SqL X.K H a ys) : xs = ys := by
  obtain ⟨its, r, ⟨o, n, e, _, _, d⟩, _⟩ := I.list h
  obtain ⟨its', r', ⟨o', n', e', _, _, d'⟩, _⟩ := I.list h'
  rw [e] at e'; cases e'
  rw [d] at d'
  injection d' with d1 _
  have : its = its' := by simpa using congrArg Array.toList d1
  subst this
  exact r.inj r'
theorem Inv.tuple_inj (I : Inv X pins σ H s) (h : SqT X.K H a xs) (h' : SqT X.K H a ys) : xs = ys := by
  obtain ⟨its, r, ⟨o, e, _, n, d⟩, _⟩ := I.tuple h
  obtain ⟨its', r', ⟨o', e', _, n', d'⟩, _⟩ := I.tuple h'
  rw [e] at e'; cases e'
  rw [d] at d'
  injection d' with d1 _
  have : its = its' := by simpa using congrArg Array.toList d1
  subst this
  exact r.inj r'
end

/-! ### another wish about exceptions -/
abbrev Cx.wish (X : Cx) (E : Value → Shared → Prop) : Cx := { X with xe := E }
/-- no exception leaves -/
abbrev Cx.nox (X : Cx) : Cx := X.wish fun _ _ => False
theorem Cx.Ok.wish {X : Cx} (ok : X.Ok) (E : Value → Shared → Prop) : (X.wish E).Ok :=
  ⟨ok.mod, ok.kind, ok.glob, ok.blt, ok.above, ok.inj, ok.has, ok.cab, ok.hd, ok.frames, ok.stk, ok.exf, ok.bs, ok.bsz, ok.noex, ok.exfs, ok.funs, ok.frf⟩
theorem Cx.Ok.unwish {X : Cx} {E : Value → Shared → Prop} (ok : (X.wish E).Ok) : X.Ok :=
  ⟨ok.mod, ok.kind, ok.glob, ok.blt, ok.above, ok.inj, ok.has, ok.cab, ok.hd, ok.frames, ok.stk, ok.exf, ok.bs, ok.bsz, ok.noex, ok.exfs, ok.funs, ok.frf⟩
section
variable {X : Cx} {pins : List (Addr × Obj)} {σ : St} {H : Hp} {s : Shared} {E : Value → Shared → Prop}
theorem Inv.wish (I : Inv X pins σ H s) (E : Value → Shared → Prop) : Inv (X.wish E) pins σ H s := ⟨I.ok.wish E, I.os, I.bare, I.base, I.loc, I.cell, I.free, I.freeC, I.pin, I.hok, I.len⟩
theorem Inv.unwish (I : Inv (X.wish E) pins σ H s) : Inv X pins σ H s := ⟨I.ok.unwish, I.os, I.bare, I.base, I.loc, I.cell, I.free, I.freeC, I.pin, I.hok, I.len⟩
theorem SP.unwish {D : Ends} {f : Flow} {s' : Shared} (h : SP (X.wish E) pins D f s') : SP X pins D f s' := by
  cases f with
  | next => obtain ⟨σ', H', I, q⟩ := h; exact ⟨σ', H', I.unwish, q⟩
  | brk => obtain ⟨σ', H', I, q⟩ := h; exact ⟨σ', H', I.unwish, q⟩
  | cont => obtain ⟨σ', H', I, q⟩ := h; exact ⟨σ', H', I.unwish, q⟩
  | ret u => obtain ⟨v, σ', H', I, r, q⟩ := h; exact ⟨v, σ', H', I.unwish, r, q⟩
theorem PE.nox {e : Expr} {t : TE} (h : PE X.nox e t) : PE X e t := fun pins s σ H Q I hw =>
  wpAny_mono (h pins s σ H Q (I.wish _) hw) (fun _ _ ⟨v, H', I', r, q⟩ => ⟨v, H', I'.unwish, r, q⟩) fun _ _ z => False.elim z
theorem PT.nox {e : Expr} {t : TT} (h : PT X.nox e t) : PT X e t := fun pins s σ H Q I hw =>
  wpAny_mono (h pins s σ H Q (I.wish _) hw) (fun _ _ ⟨H', I', q⟩ => ⟨H', I'.unwish, q⟩) fun _ _ z => False.elim z
theorem PSs.nox {st : List Stmt} {t : TS} (h : PSs X.nox st t) : PSs X st t := fun pins s σ H D I hw =>
  wpAny_mono (h pins s σ H D (I.wish _) hw) (fun _ _ q => q.unwish) fun _ _ z => False.elim z
end

/-! ### blocks and small statements -/
section
variable {X : Cx} {st : Stmt} {rest : List Stmt} {t u : TS} {e : Expr} {te : TE} {pos : Pos}
def tNext : TS := fun D σ H => D.nx σ H
def tSeq (t u : TS) : TS := fun D σ H => t { D with nx := u D } σ H
theorem pss_nil : PSs X [] tNext := fun _ _ σ H _ I h => wpAny_execs_nil ⟨σ, H, I, h⟩
theorem pss_cons (h1 : PS X st t) (h2 : PSs X rest u) : PSs X (st :: rest) (tSeq t u) := by
  intro pins s σ H D I h
  refine wpAny_execs_cons (thn (h1 pins s σ H { D with nx := u D } I h) fun f s1 q => ?_)
  cases f with
  | next =>
    obtain ⟨σ', H', I', q⟩ := q
    exact h2 pins s1 σ' H' D I' q
  | ret v => exact q
  | brk => exact q
  | cont => exact q
theorem pss_one (h1 : PS X st t) : PSs X [st] t := by
  intro pins s σ H D I h
  refine wpAny_execs_cons (thn (h1 pins s σ H D I h) fun f s1 q => ?_)
  cases f with
  | next => exact wpAny_execs_nil q
  | ret v => exact q
  | brk => exact q
  | cont => exact q
/-- in a def's body nothing is shown -/
theorem Inv.quiet {pins : List (Addr × Obj)} {σ : St} {H : Hp} {s : Shared} (I : Inv X pins σ H s) : interactive X.env = false := by simp [interactive, I.ok.kind]
/-- an expression whose value is dropped -/
def tDrop (te : TE) : TS := fun D σ H => te σ H fun _ H1 => D.nx σ H1
theorem ps_expr (he : PE X e te) (hs : swapsWith e none pos.line X.env = pure false := by rfl) : PS X (.Expr e pos) (tDrop te) := by
  intro pins s σ H D I h
  exact wpAny_Expr_any (thn (he pins s σ H _ I h) fun v s1 ⟨x, H1, I1, r1, q1⟩ => ⟨σ, H1, I1, q1⟩) I.quiet hs
def tRet (te : TE) : TS := fun D σ H => te σ H D.rt
theorem ps_ret (he : PE X e te) : PS X (.Return (some e) pos) (tRet te) := by
  intro pins s σ H D I h
  exact wpAny_Return_some (thn (he pins s σ H _ I h) fun v s1 ⟨x, H1, I1, r1, q1⟩ => ⟨x, σ, H1, I1, r1, q1⟩)
def tIfS (c : TT) (t u : TS) : TS := fun D σ H => c σ H fun b H1 => if b = true then t D σ H1 else u D σ H1
theorem ps_if {c : Expr} {a b : List Stmt} {tc : TT} (hc : PT X c tc) (ha : PSs X a t) (hb : PSs X b u) : PS X (.If c a b pos) (tIfS tc t u) := by
  intro pins s σ H D I h
  refine wpAny_If (thn (hc pins s σ H _ I h) fun d s1 ⟨H1, I1, q1⟩ => ?_)
  cases d with
  | true => exact ha pins s1 σ H1 D I1 q1
  | false => exact hb pins s1 σ H1 D I1 q1
end

/-! ### targets -/
abbrev TG := V → St → Hp → (St → Hp → Prop) → Prop
abbrev TGs := List V → St → Hp → (St → Hp → Prop) → Prop
def PG (X : Cx) (target : Expr) (t : TG) : Prop :=
  ∀ (pins : List (Addr × Obj)) (s : Shared) (σ : St) (H : Hp) (v : V) (u : Value) (Q : St → Hp → Prop), Inv X pins σ H s → RelV v u → t v σ H Q →
    wpAny (model X.prog X.w) X.A (assign target X.env u) (fun _ s' => ∃ σ' H', Inv X pins σ' H' s' ∧ Q σ' H') X.xe s
/-- several targets, one after another -/
def PGs (X : Cx) (ts : List Expr) (t : TGs) : Prop :=
  ∀ (pins : List (Addr × Obj)) (s : Shared) (σ : St) (H : Hp) (vs : List V) (us : List Value) (Q : St → Hp → Prop), Inv X pins σ H s → Vals vs us → t vs σ H Q →
    wpAny (model X.prog X.w) X.A (assignInOrder ((assignEach ts X.env).map (·.2)) us) (fun _ s' => ∃ σ' H', Inv X pins σ' H' s' ∧ Q σ' H') X.xe s
/-- o[i] = v, by values -/
abbrev TSet := V → V → V → Hp → (Hp → Prop) → Prop
def PSet (X : Cx) (t : TSet) : Prop :=
  ∀ (pins : List (Addr × Obj)) (s : Shared) (σ : St) (H : Hp) (o i v : V) (ov iv u : Value) (Q : Hp → Prop), Inv X pins σ H s → RelV o ov → RelV i iv → RelV v u → t o i v H Q →
    wpAny (model X.prog X.w) X.A (setItem ov iv u) (fun _ s' => ∃ H', Inv X pins σ H' s' ∧ Q H') X.xe s
section
variable {X : Cx} {pos : Pos}
def gName (i : Nat) : TG := fun v σ H Q => Q (σ.set i (some v)) H
theorem pg_name {i : Nat} {x : Str} (hN : X.N.Nodup) (hi : X.N[i]? = some x) (hx : Loc X.env.scope x) (hf : X.fn x = true ∨ X.env.scope.names.lookup x = some .local := by first | exact .inl rfl | exact .inr rfl | assumption) : PG X (.Name x pos) (gName i) := by
  intro pins s σ H v u Q I r h
  exact wpAny_assign_Name (store_ok I hN hi hx r (fun s' I' => ⟨_, H, I', h⟩) hf)
def gNil : TGs := fun vs σ H Q => vs = [] ∧ Q σ H
def gCons (t : TG) (u : TGs) : TGs := fun vs σ H Q => ∃ v r, vs = v :: r ∧ t v σ H fun σ' H' => u r σ' H' Q
theorem pgs_nil : PGs X [] gNil := by
  intro pins s σ H vs us Q I r h
  obtain ⟨e, h⟩ := h
  subst e
  cases r
  exact assignInOrder_nil ⟨σ, H, I, h⟩
theorem pgs_cons {e : Expr} {es : List Expr} {t : TG} {u : TGs} (h1 : PG X e t) (h2 : PGs X es u)
    (hs : (assignEach (e :: es) X.env).map (·.2) = assign e X.env :: (assignEach es X.env).map (·.2) := by rfl) : PGs X (e :: es) (gCons t u) := by
  intro pins s σ H vs us Q I r h
  obtain ⟨v, vr, e1, h⟩ := h
  subst e1
  cases r with
  | cons r rr =>
    rw [hs]
    refine assignInOrder_cons (thn (h1 pins s σ H _ _ _ I r h) fun _ s1 ⟨σ1, H1, I1, q1⟩ => ?_)
    exact h2 pins s1 σ1 H1 _ _ Q I1 rr q1
/-- (a, b, ..) = a tuple of that length -/
def gTup (K : PySem.W.Frag) (n : Nat) (t : TGs) : TG := fun v σ H Q => ∃ a xs, v = .ref a ∧ SqT K H a xs ∧ xs.length = n ∧ t xs σ H Q
theorem pg_tup {es : List Expr} {k : Nat} {t : TGs} {n : Nat} (hc : X.calm = true) (h : PGs X es t)
    (hn : (assignEach es X.env).length = n := by rfl) (hst : (assignEach es X.env).findIdx? (·.1) = none := by rfl) : PG X (.Tuple es k pos) (gTup X.K n t) := by
  intro pins s σ H v u Q I r hw
  obtain ⟨a, xs, e1, hq, hl, hw⟩ := hw
  subst e1
  cases r
  obtain ⟨its, rv, ht, hz⟩ := I.tuple hq
  refine assign_Tuple_tuple (I.ok.hd hc) ht (by simp [hn, ← hl, rv.length]) hst fun h' hx => ?_
  have I1 : Inv X pins σ H { s with heap := h' } := I.kept (t' := s.toks) fun b o e => hx b o (Nat.ne_of_lt (Heap.lt_size e)) e
  exact h pins _ σ H xs _ Q I1 (by simpa using rv) hw
/-- o[i] = .. -/
def gSub (to ti : TE) (t : TSet) : TG := fun v σ H Q => to σ H fun o H1 => ti σ H1 fun i H2 => t o i v H2 fun H3 => Q σ H3
theorem pg_sub {o i : Expr} {to ti : TE} {t : TSet} (ho : PE X o to) (hi : PE X i ti) (hs : PSet X t)
    (ha : ∀ v, assign (.Subscript o i pos) X.env v = (do
      let ov ← holding [v] (eval o X.env)
      let iv ← holding [v, ov] (eval i X.env)
      standAt pos
      holding [v, ov, iv] (setItem ov iv v)
      release [v, ov, iv] []) := by intro _; rfl) : PG X (.Subscript o i pos) (gSub to ti t) := by
  intro pins s σ H v u Q I r h
  rw [ha]
  refine wpAny_bind (wpAny_holding (thn (ho pins s σ H _ I h) fun ov s1 ⟨x, H1, I1, r1, q1⟩ => ?_))
  refine wpAny_bind (wpAny_holding (thn (hi pins s1 σ H1 _ I1 q1) fun iv s2 ⟨y, H2, I2, r2, q2⟩ => ?_))
  refine wpAny_bind (wpAny_standAt (wpAny_bind (wpAny_holding (thn (hs pins s2 σ H2 x y v ov iv u _ I2 r1 r2 r q2) fun _ s3 ⟨H3, I3, q3⟩ => ?_))))
  exact wpAny_release ⟨σ, H3, I3, q3⟩
/-- target = value -/
def tAsg (te : TE) (g : TG) : TS := fun D σ H => te σ H fun x H1 => g x σ H1 D.nx
theorem ps_asg {tg e : Expr} {te : TE} {g : TG} (he : PE X e te) (hg : PG X tg g) (hs : swapsWithSole [tg] e pos.line X.env = pure false := by rfl) (hw : swappedStores [tg] e X.env = pure none := by rfl)
    (h1 : (assignEach [tg] X.env).map (·.2) = [assign tg X.env] := by rfl) : PS X (.Assign [tg] e pos) (tAsg te g) := by
  intro pins s σ H D I h
  refine wpAny_Assign_stores (thn (he pins s σ H _ I h) fun v s1 ⟨x, H1, I1, r1, q1⟩ => ?_) hs hw
  rw [h1]
  exact thn (hg pins s1 σ H1 x v _ I1 r1 q1) fun _ s2 q => q
/-- name = value -/
theorem ps_set {i : Nat} {x : Str} {e : Expr} {te : TE} {pos' : Pos} (hN : X.N.Nodup) (hi : X.N[i]? = some x) (hx : Loc X.env.scope x) (he : PE X e te) (hs : swapsWith e (some (.Name x pos')) pos.line X.env = pure false := by rfl) (hf : X.fn x = true ∨ X.env.scope.names.lookup x = some .local := by first | exact .inl rfl | exact .inr rfl | assumption) :
    PS X (.Assign [.Name x pos'] e pos) (tAsg te (gName i)) := by
  intro pins s σ H D I h
  refine wpAny_Assign_Name (thn (he pins s σ H _ I h) fun v s1 ⟨y, H1, I1, r1, q1⟩ => ?_) hs
  exact store_ok I1 hN hi hx r1 (fun s2 I2 => ⟨_, H1, I2, q1⟩) hf
end

/-! ### while -/
section
variable {X : Cx} {pos : Pos}
/-- the invariant W with its measure -/
def tWhile (c : TT) (tb : TS) : TS := fun D σ H => ∃ W : Nat → St → Hp → Prop, (∃ m, W m σ H) ∧ ∀ m σ H, W m σ H →
  c σ H fun b H1 => if b = true then ∃ N : St → Hp → Prop, (∀ σ' H', N σ' H' → ∃ m', m' < m ∧ W m' σ' H') ∧ tb { D with nx := N, ct := N, bk := D.nx } σ H1 else D.nx σ H1
theorem ps_while {c : Expr} {body : List Stmt} {tc : TT} {tb : TS} (hp : PassesOwn (model X.prog X.w) X.A X.env X.xe) (hc : PT X c tc) (hb : PSs X body tb) : PS X (.While c body [] pos) (tWhile tc tb) := by
  intro pins s σ H D I h
  obtain ⟨W, ⟨m0, w0⟩, turn⟩ := h
  refine wpAny_While (codeAny_whileLoop (fun n s' => ∃ σ' H', Inv X pins σ' H' s' ∧ W n σ' H') ?_ m0 ⟨σ, H, I, w0⟩)
  rintro n s1 ⟨σ1, H1, I1, w1⟩
  refine wpAny_passesOwn hp (thn (hc pins s1 σ1 H1 _ I1 (turn n σ1 H1 w1)) fun b s2 ⟨H2, I2, q2⟩ => ?_)
  cases b with
  | true =>
    obtain ⟨N, hN, q2⟩ := q2
    rw [if_pos rfl]
    refine wpAny_passesOwn hp (thn (hb pins s2 σ1 H2 _ I2 q2) fun f s3 q3 => ?_)
    cases f with
    | next =>
      obtain ⟨σ3, H3, I3, n3⟩ := q3
      obtain ⟨m', hm, w3⟩ := hN σ3 H3 n3
      exact ⟨m', hm, σ3, H3, I3, w3⟩
    | cont =>
      obtain ⟨σ3, H3, I3, n3⟩ := q3
      obtain ⟨m', hm, w3⟩ := hN σ3 H3 n3
      exact ⟨m', hm, σ3, H3, I3, w3⟩
    | brk => exact q3
    | ret v => exact q3
  | false =>
    rw [if_neg Bool.false_ne_true]
    exact wpAny_execs_nil ⟨σ1, H2, I2, q2⟩
end

/-! ### what a loop or a comprehension walks -/
/-- at turn i: it yields x (the heap may grow), or it stops -/
structure It where
  go : Nat → Hp → Prop
  yld : Nat → Hp → V → Hp → Prop
  stop : Nat → Hp → Prop
/-- the iterator's own objects may turn: they are not the frame's, not pinned, younger than the entry (or a comprehension's own) -/
def FpOk (X : Cx) (pins : List (Addr × Obj)) (H : Hp) (b : Addr) : Prop :=
  H b = none ∧ b ≠ X.env.locals ∧ b ∉ X.fs ∧ (b ∈ X.ex ∨ X.s₀.heap.objs.size ≤ b) ∧ (∀ x c, X.env.cells.lookup x = some c → c ≠ b) ∧ ∀ p ∈ X.pn ++ pins, p.1 ≠ b
theorem Inv.fpOk {X : Cx} {pins : List (Addr × Obj)} {σ : St} {H H' : Hp} {s : Shared} {b : Addr} (I : Inv X pins σ H s) (hb : s.heap.objs.size ≤ b) (hn : H' b = none) : FpOk X pins H' b := by
  refine ⟨hn, Nat.ne_of_gt (Nat.lt_of_lt_of_le I.lt hb), I.nofs hb, .inr (Nat.le_trans I.sz hb), fun x c e z => ?_, fun p hp z => ?_⟩
  · obtain ⟨v, q⟩ := I.cell x c e
    exact absurd (Nat.lt_of_lt_of_le q.lt (by rw [z]; exact hb)) (Nat.lt_irrefl _)
  · exact absurd (Nat.lt_of_lt_of_le (Heap.lt_size (I.pin p hp).1) (by rw [z]; exact hb)) (Nat.lt_irrefl _)
structure Turn (P : Program) (w : World) (K : PySem.W.Frag) (tg : Expr) (J : It) (fp : List Addr) (it : Addr) (tn : Nat → Heap → Prop) : Prop where
  mem : it ∈ fp
  obj : ∀ i h, tn i h → ∀ b ∈ fp, ∃ o, h.get? b = some o ∧ ∀ v, o.data ≠ .cell v
  keep : ∀ i h h', tn i h → (∀ b ∈ fp, ∀ o, h.get? b = some o → h'.get? b = some o) → tn i h'
  item : ∀ (X : Cx), X.prog = P → X.w = w → X.K = K → X.calm = true → ∀ (i : Nat) (pins : List (Addr × Obj)) (s : Shared) (σ : St) (H : Hp) (E : Value → Shared → Prop), Inv X pins σ H s → (∀ b ∈ fp, FpOk X pins H b) → tn i s.heap → J.go i H →
    wpAny (model P w) X.A (pyNext (.ref it)) (fun r s1 => ∃ u, r = some u ∧
      wpAny (model P w) X.A (letOwnedTupleGo tg (.ref it) u) (fun _ s2 => ∃ x H', Inv X pins σ H' s2 ∧ RelV x u ∧ J.yld i H x H' ∧ tn (i + 1) s2.heap ∧ ∀ b ∈ fp, H' b = none) E s1) E s
  done : ∀ (X : Cx), X.prog = P → X.w = w → X.K = K → X.calm = true → ∀ (i : Nat) (pins : List (Addr × Obj)) (s : Shared) (σ : St) (H : Hp) (E : Value → Shared → Prop), Inv X pins σ H s → (∀ b ∈ fp, FpOk X pins H b) → tn i s.heap → J.stop i H →
    wpAny (model P w) X.A (pyNext (.ref it)) (fun r s1 => r = none ∧ Inv X pins σ H s1) E s
  self : ∀ (A : Around) (i : Nat) (s : Shared) (Q : Value → Shared → Prop) (E : Value → Shared → Prop), tn i s.heap → Q (.ref it) s → wpAny (model P w) A (pyIter (.ref it)) Q E s
abbrev TI := St → Hp → (It → Hp → Prop) → Prop
/-- an iterator has come -/
def PIE (X : Cx) (pins : List (Addr × Obj)) (σ : St) (tg : Expr) (R : It → Hp → Prop) (itv : Value) (s2 : Shared) : Prop :=
  ∃ (it : Addr) (fp : List Addr) (tn : Nat → Heap → Prop) (J : It) (H' : Hp), itv = .ref it ∧ Inv X pins σ H' s2 ∧ Turn X.prog X.w X.K tg J fp it tn ∧ tn 0 s2.heap ∧ (∀ b ∈ fp, FpOk X pins H' b) ∧ R J H'
def PI (X : Cx) (tg iter : Expr) (wi : TI) : Prop :=
  ∀ (pins : List (Addr × Obj)) (s : Shared) (σ : St) (H : Hp) (R : It → Hp → Prop), Inv X pins σ H s → wi σ H R →
    wpAny (model X.prog X.w) X.A (eval iter X.env) (fun v s1 => wpAny (model X.prog X.w) X.A (pyIter v) (PIE X pins σ tg R) X.xe s1) X.xe s

/-- the step ahead of the store is nothing for an iterator that keeps no tuple -/
theorem go_of {M : Model} {A : Around} {E : Value → Shared → Prop} {s : Shared} {tg : Expr} {it : Addr} {u : Value} {o : Obj} {n : String} {vs : Array Value} {Q : Unit → Shared → Prop} (ho : s.heap.get? it = some o) (hc : o.cls = .type n) (hd : o.data = .fields vs)
    (hn : ["enumerate", "zip", "dict_itemiterator", "dict_reverseitemiterator", "odict_iterator", "itertools.zip_longest", "itertools.pairwise"].contains n = false) (hQ : Q () s) : wpAny M A (letOwnedTupleGo tg (.ref it) u) Q E s := by
  unfold letOwnedTupleGo
  cases tg <;> first
    | exact wpAny_pure hQ
    | (cases u <;> first
        | exact wpAny_pure hQ
        | (refine wpAny_bind (wpAny_load ho ?_)
           rw [hc, hd]
           show wpAny M A (if (["enumerate", "zip", "dict_itemiterator", "dict_reverseitemiterator", "odict_iterator", "itertools.zip_longest", "itertools.pairwise"].contains n && vs[0]? == some (rawInt _)) = true then _ else _) Q E s
           rw [if_neg (by intro h; rw [hn, Bool.false_and] at h; cases h)]
           exact wpAny_pure hQ))

/-- the list at a, as it stands at each turn (a loop may append to it) -/
def Itl (K : PySem.W.Frag) (a : Addr) : It :=
  ⟨fun i H => ∃ xs x, SqL K H a xs ∧ xs[i]? = some x, fun i H x H' => H' = H ∧ ∀ xs, SqL K H a xs → xs[i]? = some x, fun i H => ∃ xs, SqL K H a xs ∧ xs.length ≤ i⟩
def Itt (K : PySem.W.Frag) (a : Addr) : It :=
  ⟨fun i H => ∃ xs x, SqT K H a xs ∧ xs[i]? = some x, fun i H x H' => H' = H ∧ ∀ xs, SqT K H a xs → xs[i]? = some x, fun i H => ∃ xs, SqT K H a xs ∧ xs.length ≤ i⟩
/-- lo, lo + 1, .. (n of them) -/
def Itr (lo : Int) (n : Nat) : It := ⟨fun i _ => i < n, fun i H x H' => H' = H ∧ x = .int (lo + i), fun i _ => n ≤ i⟩
theorem turn_list {P : Program} {w : World} {K : PySem.W.Frag} {tg : Expr} (a it : Addr) : Turn P w K tg (Itl K a) [it] it (fun i h => h.IsListIter it a i) where
  mem := by simp
  obj := fun i h st b hb => by
    have e : b = it := by simpa using hb
    subst e
    obtain ⟨o, e, c, d⟩ := st
    exact ⟨o, e, fun v z => by rw [d] at z; cases z⟩
  keep := fun i h h' st k => st.at fun o e => k it (by simp) o e
  item := by
    intro X hP hw hK hc i pins s σ H E I hf st hg
    subst hP hw hK
    obtain ⟨xs, x, hq, hx⟩ := hg
    obtain ⟨its, rv, p, hz⟩ := I.list hq
    obtain ⟨u, hu, ru⟩ := rv.get hx
    obtain ⟨f0, f1, f2, f3, f4, f5⟩ := hf it (by simp)
    refine wpAny_pyNext_list_item st p.isList (x := u) (by simpa using hu) fun h' st' sb => ?_
    have I1 : Inv X pins σ H { s with heap := h' } := I.turned (t' := s.toks) (fun b o hb e => (sb.2 b hb).trans e) f0 f1 f3 f4 f5
    obtain ⟨o, e, c, d⟩ := id st'
    exact ⟨u, rfl, go_of (s := { s with heap := h' }) e c d (by decide) ⟨x, H, I1, ru, ⟨rfl, fun ys hy => by rw [I.list_inj hy hq]; exact hx⟩, st', fun b hb => (hf b hb).1⟩⟩
  done := by
    intro X hP hw hK hc i pins s σ H E I hf st hg
    subst hP hw hK
    obtain ⟨xs, hq, hx⟩ := hg
    obtain ⟨its, rv, p, hz⟩ := I.list hq
    obtain ⟨f0, f1, f2, f3, f4, f5⟩ := hf it (by simp)
    have hl := rv.length
    exact wpAny_pyNext_list_end (I.ok.hd hc) st p.isList (by simp; omega) fun h' eb => ⟨rfl, I.turned (t' := s.toks) (fun b o hb e => eb b o hb e) f0 f1 f3 f4 f5⟩
  self := fun _ _ _ _ _ st h => wpAny_pyIter_listiter st h
theorem turn_tuple {P : Program} {w : World} {K : PySem.W.Frag} {tg : Expr} (a it : Addr) : Turn P w K tg (Itt K a) [it] it (fun i h => h.IsTupleIter it a i) where
  mem := by simp
  obj := fun i h st b hb => by
    have e : b = it := by simpa using hb
    subst e
    obtain ⟨o, e, c, d⟩ := st
    exact ⟨o, e, fun v z => by rw [d] at z; cases z⟩
  keep := fun i h h' st k => st.at fun o e => k it (by simp) o e
  item := by
    intro X hP hw hK hc i pins s σ H E I hf st hg
    subst hP hw hK
    obtain ⟨xs, x, hq, hx⟩ := hg
    obtain ⟨its, rv, p, hz⟩ := I.tuple hq
    obtain ⟨u, hu, ru⟩ := rv.get hx
    obtain ⟨f0, f1, f2, f3, f4, f5⟩ := hf it (by simp)
    refine wpAny_pyNext_tuple_item st (show s.heap.IsTuple a its.toArray from p) (x := u) (by simpa using hu) fun h' st' sb => ?_
    have I1 : Inv X pins σ H { s with heap := h' } := I.turned (t' := s.toks) (fun b o hb e => (sb.2 b hb).trans e) f0 f1 f3 f4 f5
    obtain ⟨o, e, c, d⟩ := id st'
    exact ⟨u, rfl, go_of (s := { s with heap := h' }) e c d (by decide) ⟨x, H, I1, ru, ⟨rfl, fun ys hy => by rw [I.tuple_inj hy hq]; exact hx⟩, st', fun b hb => (hf b hb).1⟩⟩
  done := by
    intro X hP hw hK hc i pins s σ H E I hf st hg
    subst hP hw hK
    obtain ⟨xs, hq, hx⟩ := hg
    obtain ⟨its, rv, p, hz⟩ := I.tuple hq
    obtain ⟨f0, f1, f2, f3, f4, f5⟩ := hf it (by simp)
    have hl := rv.length
    exact wpAny_pyNext_tuple_end (I.ok.hd hc) st (show s.heap.IsTuple a its.toArray from p) (by simp; omega) fun h' eb => ⟨rfl, I.turned (t' := s.toks) (fun b o hb e => eb b o hb e) f0 f1 f3 f4 f5⟩
  self := fun _ _ _ _ _ st h => wpAny_pyIter_tupleiter st h
theorem turn_range {P : Program} {w : World} {K : PySem.W.Frag} {tg : Expr} (it : Addr) (lo : Int) (n : Nat) : Turn P w K tg (Itr lo n) [it] it (fun i h => IsRangeIter h it (lo + (i : Nat) * 1) ((n : Int) - (i : Nat)) 1) where
  mem := by simp
  obj := fun i h st b hb => by
    have e : b = it := by simpa using hb
    subst e
    exact ⟨_, st, fun v z => by
      have z' : Data.fields _ = Data.cell v := z
      cases z'⟩
  keep := fun i h h' st k => k it (by simp) _ st
  item := by
    intro X hP hw hK hc i pins s σ H E I hf st hg
    subst hP hw hK
    obtain ⟨f0, f1, f2, f3, f4, f5⟩ := hf it (by simp)
    have W := Walks.range (prog := X.prog) (w := X.w) (I.ok.hd hc) it lo 1 n
    refine W.item i s _ _ hg st fun v h' tk hv st' kk => ?_
    obtain ⟨t, rfl⟩ := hv
    have I1 : Inv X pins σ H { s with heap := h', toks := tk } := I.turned (fun b o hb e => kk b o (by simpa using hb) e) f0 f1 f3 f4 f5
    refine ⟨_, rfl, go_of (s := { s with heap := h', toks := tk }) (n := "range_iterator") st' rfl rfl (by decide) ⟨.int (lo + i), H, I1, ⟨t, ?_⟩, ⟨rfl, rfl⟩, st', fun b hb => (hf b hb).1⟩⟩
    rw [Int.mul_one]
  done := by
    intro X hP hw hK hc i pins s σ H E I hf st hg
    subst hP hw hK
    obtain ⟨f0, f1, f2, f3, f4, f5⟩ := hf it (by simp)
    exact wpAny_pyNext_range_end (I.ok.hd hc) st (by have : n ≤ i := hg; omega) fun h' eb => ⟨rfl, I.turned (t' := s.toks) (fun b o hb e => eb b o hb e) f0 f1 f3 f4 f5⟩
  self := fun _ _ _ _ _ st h => wpAny_pyIter_rangeiter st h
end L2

namespace L2
open PySem PySem.Spec PyProof.Rows
section
variable {X : Cx} {tg : Expr}
def iList (K : PySem.W.Frag) (tl : TE) : TI := fun σ H R => tl σ H fun x H1 => ∃ a, x = .ref a ∧ (∃ xs, SqL K H1 a xs) ∧ R (Itl K a) H1
def iTup (K : PySem.W.Frag) (tl : TE) : TI := fun σ H R => tl σ H fun x H1 => ∃ a, x = .ref a ∧ (∃ xs, SqT K H1 a xs) ∧ R (Itt K a) H1
theorem pi_list {l : Expr} {tl : TE} (hl : PE X l tl) : PI X tg l (iList X.K tl) := by
  intro pins s σ H R I h
  refine thn (hl pins s σ H _ I h) fun v s1 ⟨x, H1, I1, r1, q1⟩ => ?_
  obtain ⟨a, e, ⟨xs, hq⟩, q⟩ := q1
  subst e
  cases r1
  obtain ⟨its, rv, p, hz⟩ := I1.list hq
  refine wpAny_pyIter_list p.isList ?_
  refine ⟨s1.heap.objs.size, [s1.heap.objs.size], _, _, H1, rfl, I1.kept (t' := s1.toks) fun b o e => Heap.get?_push_of_some _ e, turn_list a _, ⟨_, Heap.get?_push_size _ rfl, rfl, rfl⟩, fun b hb => ?_, q⟩
  have e : b = s1.heap.objs.size := by simpa using hb
  subst e
  exact I1.fpOk (Nat.le_refl _) (I1.hok.fresh (Nat.le_refl _))
theorem pi_tup {l : Expr} {tl : TE} (hl : PE X l tl) : PI X tg l (iTup X.K tl) := by
  intro pins s σ H R I h
  refine thn (hl pins s σ H _ I h) fun v s1 ⟨x, H1, I1, r1, q1⟩ => ?_
  obtain ⟨a, e, ⟨xs, hq⟩, q⟩ := q1
  subst e
  cases r1
  obtain ⟨its, rv, p, hz⟩ := I1.tuple hq
  refine wpAny_pyIter_tuple (show s1.heap.IsTuple a its.toArray from p) ?_
  refine ⟨s1.heap.objs.size, [s1.heap.objs.size], _, _, H1, rfl, I1.kept (t' := s1.toks) fun b o e => Heap.get?_push_of_some _ e, turn_tuple a _, ⟨_, Heap.get?_push_size _ rfl, rfl, rfl⟩, fun b hb => ?_, q⟩
  have e : b = s1.heap.objs.size := by simpa using hb
  subst e
  exact I1.fpOk (Nat.le_refl _) (I1.hok.fresh (Nat.le_refl _))
/-- a range object just made, walked -/
theorem range_it {pins : List (Addr × Obj)} {σ : St} {H : Hp} {s : Shared} {R : It → Hp → Prop} {E : Value → Shared → Prop} {lo hi : Int} {t u v : Tok} {tk : Nat} (I : Inv X pins σ H s) (h1 : -(2 ^ 62) ≤ lo) (h2 : lo < 2 ^ 62) (h3 : -(2 ^ 62) ≤ hi) (h4 : hi < 2 ^ 62)
    (q : R (Itr lo (hi - lo).toNat) H) : wpAny (model X.prog X.w) X.A (pyIter (.ref s.heap.objs.size)) (PIE X pins σ tg R) E { s with heap := s.heap.push { cls := .type "range", data := .fields #[.int lo t, .int hi u, .int 1 v] }, toks := tk } := by
  refine wpAny_pyIter_range (IsRange.new ..) (small_one h1 h2 h3 h4) ?_
  have I1 : Inv X pins σ H { s with heap := s.heap.push { cls := .type "range", data := .fields #[.int lo t, .int hi u, .int 1 v] }, toks := tk } := I.kept fun b o e => Heap.get?_push_of_some _ e
  refine ⟨(s.heap.push { cls := .type "range", data := .fields #[.int lo t, .int hi u, .int 1 v] }).objs.size, [(s.heap.push { cls := .type "range", data := .fields #[.int lo t, .int hi u, .int 1 v] }).objs.size], _, _, H, rfl,
    I1.kept (t' := tk) fun b o e => Heap.get?_push_of_some _ e, turn_range _ lo (hi - lo).toNat, ?_, fun b hb => ?_, q⟩
  · have e1 : lo + ((0 : Nat) : Int) * 1 = lo := by simp
    have e2 : (((hi - lo).toNat : Nat) : Int) - ((0 : Nat) : Int) = Builtin.Range.rangeSize lo hi 1 := by rw [rangeSize_one]; split <;> omega
    show IsRangeIter _ _ (lo + ((0 : Nat) : Int) * 1) ((((hi - lo).toNat : Nat) : Int) - ((0 : Nat) : Int)) 1
    rw [e1, e2]
    exact Heap.get?_push_size _ rfl
  · have e : b = (s.heap.push { cls := .type "range", data := .fields #[.int lo t, .int hi u, .int 1 v] }).objs.size := by simpa using hb
    subst e
    exact I1.fpOk (Nat.le_refl _) (I1.hok.fresh (Nat.le_refl _))
def iRng1 (ta : TA) : TI := fun σ H R => ta σ H fun vs H1 => ∃ j : Int, vs = [.int j] ∧ -(2 ^ 62) ≤ j ∧ j < 2 ^ 62 ∧ R (Itr 0 j.toNat) H1
theorem pi_range1 {a : Expr} {ta : TA} {p pos : Pos} (hg : Gl X "range") (hm : X.mg "range" = none) (ha : PA X [a] ta) (hs : starEach [a] X.env = [(false, eval a X.env)] := by rfl) : PI X tg (.Call (.Name "range" p) [a] [] pos) (iRng1 ta) := by
  intro pins s σ H R I h
  refine Call_ (ld_blt I hg hm boot_range (PyProof.Rows.callWith_type1 (thn (ha pos pins s σ H _ I h) fun us s1 ⟨vs, H1, I1, r1, q1⟩ => ?_) hs rfl))
  obtain ⟨j, e, q1, q2, q⟩ := q1
  subst e
  cases r1 with
  | cons r rr =>
    cases rr
    obtain ⟨t, rfl⟩ := r
    exact call_range_1 (range_it I1 (by omega) (by omega) q1 q2 (by simpa using q))
/-! ### for -/
/-- W: the invariant by the turn and a measure; N: what the body is to reach -/
def tFor (wi : TI) (g : TG) (tb : TS) : TS := fun D σ H => wi σ H fun J H1 => ∃ W : Nat → Nat → St → Hp → Prop, (∃ m, W 0 m σ H1) ∧ ∀ i m σ H, W i m σ H →
  (J.stop i H ∧ D.nx σ H) ∨ (J.go i H ∧ ∃ N : St → Hp → Prop, (∀ σ' H', N σ' H' → ∃ m', m' < m ∧ W (i + 1) m' σ' H') ∧ ∀ x H', J.yld i H x H' → g x σ H' fun σ2 H2 => tb { D with nx := N, ct := N, bk := D.nx } σ2 H2)
/-- the records at fp as they stand -/
def pinsAt (fp : List Addr) (h : Heap) : List (Addr × Obj) := fp.filterMap fun b => (h.get? b).map fun o => (b, o)
theorem mem_pinsAt {fp : List Addr} {h : Heap} {b : Addr} {o : Obj} (hb : b ∈ fp) (e : h.get? b = some o) : (b, o) ∈ pinsAt fp h := List.mem_filterMap.mpr ⟨b, hb, by rw [e]; rfl⟩
theorem of_pinsAt {fp : List Addr} {h : Heap} {p : Addr × Obj} (hp : p ∈ pinsAt fp h) : p.1 ∈ fp ∧ h.get? p.1 = some p.2 := by
  obtain ⟨b, hb, e⟩ := List.mem_filterMap.mp hp
  cases q : h.get? b with
  | none => rw [q] at e; cases e
  | some o =>
    rw [q] at e
    have e' : (b, o) = p := Option.some.inj e
    subst e'
    exact ⟨hb, q⟩
theorem Inv.pinned {pins : List (Addr × Obj)} {σ : St} {H : Hp} {s : Shared} {fp : List Addr} (I : Inv X pins σ H s) (hf : ∀ b ∈ fp, FpOk X pins H b) (ho : ∀ b ∈ fp, ∃ o, s.heap.get? b = some o ∧ ∀ v, o.data ≠ .cell v) : Inv X (pins ++ pinsAt fp s.heap) σ H s :=
  I.pins_of fun p hp => (List.mem_append.mp hp).elim (fun z => I.pin p (List.mem_append_right _ z)) fun z => by
    obtain ⟨hb, e⟩ := of_pinsAt z
    obtain ⟨f0, f1, f2, _⟩ := hf p.1 hb
    obtain ⟨o, e', d⟩ := ho p.1 hb
    rw [e] at e'; cases e'
    exact ⟨e, f0, f1, f2, d⟩
theorem Inv.unpinned {pins pl : List (Addr × Obj)} {σ : St} {H : Hp} {s : Shared} (I : Inv X (pins ++ pl) σ H s) : Inv X pins σ H s := I.pins_of fun p hp => I.pin p (List.mem_append_right _ (List.mem_append_left _ hp))
theorem ps_for {iter : Expr} {body : List Stmt} {wi : TI} {g : TG} {tb : TS} {pos : Pos} (hp : PassesOwn (model X.prog X.w) X.A X.env X.xe) (hc : X.calm = true) (hi : PI X tg iter wi) (hg : PG X tg g) (hb : PSs X body tb)
    (hs : ∀ x, foldedSetIterable iter X.env x = pure x := by intro _; rfl) : PS X (.For tg iter body [] pos) (tFor wi g tb) := by
  intro pins s σ H D I h
  refine wpAny_For (thn (hi pins s σ H _ I h) fun v s1 h1 => thn h1 fun itv s2 h2 => ?_) hs
  obtain ⟨it, fp, tn, J, H2, e, I2, T, st2, f2, W, ⟨m0, w0⟩, turn⟩ := h2
  subst e
  -- what stays true of the iterator's objects through the loop
  have stat : ∀ {H' : Hp}, (∀ b ∈ fp, H' b = none) → ∀ b ∈ fp, FpOk X pins H' b := fun hn b hb => ⟨hn b hb, (f2 b hb).2⟩
  refine codeAny_forLoop_any (fun n s' => ∃ i σ' H', Inv X pins σ' H' s' ∧ tn i s'.heap ∧ (∀ b ∈ fp, H' b = none) ∧ W i n σ' H') ?_ m0 ⟨0, σ, H2, I2, st2, fun b hb => (f2 b hb).1, w0⟩
  rintro n s3 ⟨i, σ3, H3, I3, st3, fr3, w3⟩
  rcases turn i n σ3 H3 w3 with ⟨stop, qn⟩ | ⟨go, N, hN, step⟩
  · refine wpAny_passesOwn hp (thn (T.done X rfl rfl rfl hc i pins s3 σ3 H3 X.xe I3 (stat fr3) st3 stop) fun r s4 ⟨hr, I4⟩ => ?_)
    subst hr
    exact wpAny_execs_nil ⟨σ3, H3, I4, qn⟩
  · refine wpAny_passesOwn hp (thn (T.item X rfl rfl rfl hc i pins s3 σ3 H3 X.xe I3 (stat fr3) st3 go) fun r s4 ⟨u, hr, h4⟩ => ?_)
    subst hr
    refine wpAny_passesOwn hp (thn h4 fun _ s5 ⟨x, H5, I5, r5, y5, st5, fr5⟩ => ?_)
    have I5' := I5.pinned (stat fr5) (T.obj _ _ st5)
    refine wpAny_passesOwn hp (thn (hg _ s5 σ3 H5 x u _ I5' r5 (step x H5 y5)) fun _ s6 ⟨σ6, H6, I6, q6⟩ => ?_)
    refine wpAny_passesOwn hp (thn (hb _ s6 σ6 H6 _ I6 q6) fun f s7 q7 => ?_)
    have again : ∀ {σ7 : St} {H7 : Hp}, Inv X (pins ++ pinsAt fp s5.heap) σ7 H7 s7 → N σ7 H7 → ∃ m, m < n ∧ ∃ i σ' H', Inv X pins σ' H' s7 ∧ tn i s7.heap ∧ (∀ b ∈ fp, H' b = none) ∧ W i m σ' H' := fun {σ7 H7} I7 n7 => by
      obtain ⟨m', hm, w7⟩ := hN σ7 H7 n7
      refine ⟨m', hm, i + 1, σ7, H7, I7.unpinned, T.keep _ _ _ st5 fun b hb o e => (I7.pin (b, o) (List.mem_append_right _ (List.mem_append_right _ (mem_pinsAt hb e)))).1, fun b hb => ?_, w7⟩
      obtain ⟨o, e, d⟩ := T.obj _ _ st5 b hb
      exact (I7.pin (b, o) (List.mem_append_right _ (List.mem_append_right _ (mem_pinsAt hb e)))).2.1
    cases f with
    | next => obtain ⟨σ7, H7, I7, n7⟩ := q7; exact again I7 n7
    | cont => obtain ⟨σ7, H7, I7, n7⟩ := q7; exact again I7 n7
    | brk => obtain ⟨σ7, H7, I7, q7⟩ := q7; exact ⟨σ7, H7, I7.unpinned, q7⟩
    | ret v => obtain ⟨x7, σ7, H7, I7, r7, q7⟩ := q7; exact ⟨x7, σ7, H7, I7.unpinned, r7, q7⟩
end

/-! ### the forms one uses -/
/-- over a list that the body leaves as it is -/
theorem for_list {K : PySem.W.Frag} {a : Addr} {xs : List V} {g : TG} {tb : TS} {D : Ends} {σ : St} {H : Hp} (Pv : Nat → St → Hp → Prop) (h0 : Pv 0 σ H) (hl : ∀ i σ H, i ≤ xs.length → Pv i σ H → SqL K H a xs)
    (hs : ∀ i x σ H, xs[i]? = some x → Pv i σ H → g x σ H fun σ2 H2 => tb { D with nx := Pv (i + 1), ct := Pv (i + 1), bk := D.nx } σ2 H2) (hd : ∀ σ H, Pv xs.length σ H → D.nx σ H) :
    ∃ W : Nat → Nat → St → Hp → Prop, (∃ m, W 0 m σ H) ∧ ∀ i m σ H, W i m σ H →
      ((Itl K a).stop i H ∧ D.nx σ H) ∨ ((Itl K a).go i H ∧ ∃ N : St → Hp → Prop, (∀ σ' H', N σ' H' → ∃ m', m' < m ∧ W (i + 1) m' σ' H') ∧ ∀ x H', (Itl K a).yld i H x H' → g x σ H' fun σ2 H2 => tb { D with nx := N, ct := N, bk := D.nx } σ2 H2) := by
  refine ⟨fun i m σ H => m = xs.length - i ∧ i ≤ xs.length ∧ Pv i σ H, ⟨xs.length, by simp, Nat.zero_le _, h0⟩, ?_⟩
  rintro i m σ H ⟨rfl, hi, p⟩
  have q := hl i σ H hi p
  by_cases hlt : i < xs.length
  · refine .inr ⟨⟨xs, xs[i], q, by simp [hlt]⟩, Pv (i + 1), fun σ' H' p' => ⟨xs.length - (i + 1), by omega, rfl, hlt, p'⟩, fun x H' y => ?_⟩
    obtain ⟨e, y⟩ := y
    subst e
    exact hs i x σ _ (y xs q) p
  · have e : i = xs.length := by omega
    subst e
    exact .inl ⟨⟨xs, q, Nat.le_refl _⟩, hd σ H p⟩
theorem for_tup {K : PySem.W.Frag} {a : Addr} {xs : List V} {g : TG} {tb : TS} {D : Ends} {σ : St} {H : Hp} (Pv : Nat → St → Hp → Prop) (h0 : Pv 0 σ H) (hl : ∀ i σ H, i ≤ xs.length → Pv i σ H → SqT K H a xs)
    (hs : ∀ i x σ H, xs[i]? = some x → Pv i σ H → g x σ H fun σ2 H2 => tb { D with nx := Pv (i + 1), ct := Pv (i + 1), bk := D.nx } σ2 H2) (hd : ∀ σ H, Pv xs.length σ H → D.nx σ H) :
    ∃ W : Nat → Nat → St → Hp → Prop, (∃ m, W 0 m σ H) ∧ ∀ i m σ H, W i m σ H →
      ((Itt K a).stop i H ∧ D.nx σ H) ∨ ((Itt K a).go i H ∧ ∃ N : St → Hp → Prop, (∀ σ' H', N σ' H' → ∃ m', m' < m ∧ W (i + 1) m' σ' H') ∧ ∀ x H', (Itt K a).yld i H x H' → g x σ H' fun σ2 H2 => tb { D with nx := N, ct := N, bk := D.nx } σ2 H2) := by
  refine ⟨fun i m σ H => m = xs.length - i ∧ i ≤ xs.length ∧ Pv i σ H, ⟨xs.length, by simp, Nat.zero_le _, h0⟩, ?_⟩
  rintro i m σ H ⟨rfl, hi, p⟩
  have q := hl i σ H hi p
  by_cases hlt : i < xs.length
  · refine .inr ⟨⟨xs, xs[i], q, by simp [hlt]⟩, Pv (i + 1), fun σ' H' p' => ⟨xs.length - (i + 1), by omega, rfl, hlt, p'⟩, fun x H' y => ?_⟩
    obtain ⟨e, y⟩ := y
    subst e
    exact hs i x σ _ (y xs q) p
  · have e : i = xs.length := by omega
    subst e
    exact .inl ⟨⟨xs, q, Nat.le_refl _⟩, hd σ H p⟩
theorem for_range {lo : Int} {n : Nat} {g : TG} {tb : TS} {D : Ends} {σ : St} {H : Hp} (Pv : Nat → St → Hp → Prop) (h0 : Pv 0 σ H)
    (hs : ∀ i σ H, i < n → Pv i σ H → g (.int (lo + i)) σ H fun σ2 H2 => tb { D with nx := Pv (i + 1), ct := Pv (i + 1), bk := D.nx } σ2 H2) (hd : ∀ σ H, Pv n σ H → D.nx σ H) :
    ∃ W : Nat → Nat → St → Hp → Prop, (∃ m, W 0 m σ H) ∧ ∀ i m σ H, W i m σ H →
      ((Itr lo n).stop i H ∧ D.nx σ H) ∨ ((Itr lo n).go i H ∧ ∃ N : St → Hp → Prop, (∀ σ' H', N σ' H' → ∃ m', m' < m ∧ W (i + 1) m' σ' H') ∧ ∀ x H', (Itr lo n).yld i H x H' → g x σ H' fun σ2 H2 => tb { D with nx := N, ct := N, bk := D.nx } σ2 H2) := by
  refine ⟨fun i m σ H => m = n - i ∧ i ≤ n ∧ Pv i σ H, ⟨n, by simp, Nat.zero_le _, h0⟩, ?_⟩
  rintro i m σ H ⟨rfl, hi, p⟩
  by_cases hlt : i < n
  · refine .inr ⟨hlt, Pv (i + 1), fun σ' H' p' => ⟨n - (i + 1), by omega, rfl, hlt, p'⟩, fun x H' y => ?_⟩
    obtain ⟨e, y⟩ := y
    subst e y
    exact hs i σ _ hlt p
  · have e : i = n := by omega
    subst e
    exact .inl ⟨Nat.le_refl _, hd σ H p⟩
end L2

namespace L2
open PySem PySem.Spec PyProof.Rows

abbrev R2 := V → V → Hp → VK → Prop
/-- a two-place operation on values: f is binaryOp op, inplaceOp op or compareOp op -/
def OpR (X : Cx) (f : Value → Value → Sem Value) (r : R2) : Prop :=
  ∀ (pins : List (Addr × Obj)) (s : Shared) (σ : St) (H : Hp) (x y : V) (v u : Value) (Q : VK), Inv X pins σ H s → RelV x v → RelV y u → r x y H Q →
    wpAny (model X.prog X.w) X.A (f v u) (EP X pins σ Q) X.xe s
/-- a one-place operation -/
def UnR (X : Cx) (f : Value → Sem Value) (r : V → Hp → VK → Prop) : Prop :=
  ∀ (pins : List (Addr × Obj)) (s : Shared) (σ : St) (H : Hp) (x : V) (v : Value) (Q : VK), Inv X pins σ H s → RelV x v → r x H Q →
    wpAny (model X.prog X.w) X.A (f v) (EP X pins σ Q) X.xe s
/-- a call of a value that is known (a builtin, a type) with values -/
def CallR (X : Cx) (f : Value) (r : List V → Hp → VK → Prop) : Prop :=
  ∀ (pins : List (Addr × Obj)) (s : Shared) (σ : St) (H : Hp) (xs : List V) (us : List Value) (Q : VK), Inv X pins σ H s → Vals xs us → r xs H Q →
    wpAny (model X.prog X.w) X.A (call f us) (EP X pins σ Q) X.xe s
def tOp (r : R2) (ta tb : TE) : TE := fun σ H Q => ta σ H fun x H1 => tb σ H1 fun y H2 => r x y H2 Q
def tUn (r : V → Hp → VK → Prop) (ta : TE) : TE := fun σ H Q => ta σ H fun x H1 => r x H1 Q
/-- ints in, under C, and a value out -/
def rI (C : Int → Int → Prop) (g : Int → Int → V) : R2 := fun x y H Q => ∃ i j, x = .int i ∧ y = .int j ∧ C i j ∧ Q (g i j) H
def rI0 (g : Int → Int → V) : R2 := fun x y H Q => ∃ i j, x = .int i ∧ y = .int j ∧ Q (g i j) H
def rU (g : Int → V) : V → Hp → VK → Prop := fun x H Q => ∃ i, x = .int i ∧ Q (g i) H

section
variable {X : Cx} {a b c : Expr} {ta tb tc : TE} {pos : Pos}

theorem binT (ha : PE X a ta) (hb : PE X b tb) {pins : List (Addr × Obj)} {s : Shared} {σ : St} {H : Hp} {R : V → V → Hp → Prop} (I : Inv X pins σ H s)
    (h : ta σ H fun x H1 => tb σ H1 fun y H2 => R x y H2) {Q : Value → Shared → Prop} {f : Value → Value → Sem Value}
    (hf : ∀ v u s2 x y H2, Inv X pins σ H2 s2 → RelV x v → RelV y u → R x y H2 → wpAny (model X.prog X.w) X.A (f v u) Q X.xe s2) :
    wpAny (model X.prog X.w) X.A (eval a X.env) (fun v s₁ => wpAny (model X.prog X.w) X.A (eval b X.env) (fun u s₂ => wpAny (model X.prog X.w) X.A (f v u) Q X.xe s₂) X.xe s₁) X.xe s := by
  refine thn (ha pins s σ H _ I h) fun v s1 ⟨x, H1, I1, r1, q1⟩ => ?_
  refine thn (hb pins s1 σ H1 _ I1 q1) fun u s2 ⟨y, H2, I2, r2, q2⟩ => ?_
  exact hf v u s2 x y H2 I2 r1 r2 q2

theorem pe_op {op : Operator} {r : R2} (ho : OpR X (binaryOp op) r) (ha : PE X a ta) (hb : PE X b tb) : PE X (.BinOp a op b pos) (tOp r ta tb) := by
  intro pins s σ H Q I h
  exact wpAny_BinOp (binT ha hb I h fun v u s2 x y H2 I2 rx ry q => ho pins s2 σ H2 x y v u Q I2 rx ry q)
theorem pe_un {op : UnaryOp} {r : V → Hp → VK → Prop} (ho : UnR X (unaryOp op) r) (ha : PE X a ta) : PE X (.UnaryOp op a pos) (tUn r ta) := by
  intro pins s σ H Q I h
  exact UnaryOp_ (thn (ha pins s σ H _ I h) fun v s1 ⟨x, H1, I1, r1, q1⟩ => ho pins s1 σ H1 x v Q I1 r1 q1)
/-! ### ints -/
theorem opI {f : Value → Value → Sem Value} {C : Int → Int → Prop} {g : Int → Int → Int}
    (rule : ∀ (i j : Int) (t u : Tok) (s : Shared) (Q : Value → Shared → Prop) (E : Value → Shared → Prop), C i j → Q (.int (g i j) s.toks) { s with toks := s.toks + 1 } → wpAny (model X.prog X.w) X.A (f (.int i t) (.int j u)) Q E s) :
    OpR X f (rI C fun i j => .int (g i j)) := by
  intro pins s σ H x y v u Q I rx ry h
  obtain ⟨i, j, rfl, rfl, hc, q⟩ := h
  obtain ⟨t, rfl⟩ := rx
  obtain ⟨t', rfl⟩ := ry
  exact rule i j t t' s _ _ hc ⟨.int (g i j), H, I.tok _, ⟨_, rfl⟩, q⟩
theorem opI0 {f : Value → Value → Sem Value} {g : Int → Int → Int}
    (rule : ∀ (i j : Int) (t u : Tok) (s : Shared) (Q : Value → Shared → Prop) (E : Value → Shared → Prop), Q (.int (g i j) s.toks) { s with toks := s.toks + 1 } → wpAny (model X.prog X.w) X.A (f (.int i t) (.int j u)) Q E s) :
    OpR X f (rI0 fun i j => .int (g i j)) := by
  intro pins s σ H x y v u Q I rx ry h
  obtain ⟨i, j, rfl, rfl, q⟩ := h
  obtain ⟨t, rfl⟩ := rx
  obtain ⟨t', rfl⟩ := ry
  exact rule i j t t' s _ _ ⟨.int (g i j), H, I.tok _, ⟨_, rfl⟩, q⟩
theorem opB0 {f : Value → Value → Sem Value} {g : Int → Int → Bool}
    (rule : ∀ (i j : Int) (t u : Tok) (s : Shared) (Q : Value → Shared → Prop) (E : Value → Shared → Prop), Q (.bool (g i j)) s → wpAny (model X.prog X.w) X.A (f (.int i t) (.int j u)) Q E s) :
    OpR X f (rI0 fun i j => .bl (g i j)) := by
  intro pins s σ H x y v u Q I rx ry h
  obtain ⟨i, j, rfl, rfl, q⟩ := h
  obtain ⟨t, rfl⟩ := rx
  obtain ⟨t', rfl⟩ := ry
  exact rule i j t t' s _ _ ⟨.bl (g i j), H, I, rfl, q⟩

def CDiv (i j : Int) : Prop := 0 < j ∧ j < 1073741824
def CPow (i j : Int) : Prop := 0 ≤ j ∧ j ≤ 1000000 ∧ i.natAbs < 2 ^ 64
def CMul (i j : Int) : Prop := (-(2 ^ 64) < i ∧ i < 2 ^ 64) ∨ (-(2 ^ 64) < j ∧ j < 2 ^ 64)
theorem CMul.ok {i j : Int} (h : CMul i j) : IntMulOk i j := by
  rcases h with ⟨h1, h2⟩ | ⟨h1, h2⟩
  · exact .of_left (intBits_le_64 h1 h2)
  · exact .of_right (intBits_le_64 h1 h2)
theorem op_add : OpR X (binaryOp .Add) (rI0 fun i j => .int (i + j)) := opI0 fun _ _ _ _ _ _ _ q => add_int q
theorem op_sub : OpR X (binaryOp .Sub) (rI0 fun i j => .int (i - j)) := opI0 fun _ _ _ _ _ _ _ q => sub_int q
theorem op_mul : OpR X (binaryOp .Mult) (rI CMul fun i j => .int (i * j)) := opI fun _ _ _ _ _ _ _ hc q => mul_int q hc.ok
/-- // by a positive divisor -/
theorem op_fdiv : OpR X (binaryOp .FloorDiv) (rI CDiv fun i j => .int (i / j)) := opI fun i j _ _ _ _ _ hc q => by
  have h1 : (0 : Int) < j := hc.1
  have h2 : j < 1073741824 := hc.2
  exact floordiv_int (by omega) (by rw [Int.fdiv_eq_ediv_of_nonneg i (by omega)]; exact q) (.inl (PyProof.noPylong_small (by omega)))
/-- % by a positive divisor of any size -/
theorem op_mod : OpR X (binaryOp .Mod) (rI (fun _ j => 0 < j) fun i j => .int (i % j)) := opI fun i j _ _ _ _ _ hc q => by
  have h1 : (0 : Int) < j := hc
  exact mod_int' (by omega) (by rw [Int.fmod_eq_emod_of_nonneg i (by omega)]; exact q)
theorem op_pow : OpR X (binaryOp .Pow) (rI CPow fun i j => .int (i ^ j.toNat)) := opI fun _ _ _ _ _ _ _ hc q => pow_int_small hc.1 hc.2.1 hc.2.2 q
theorem unI {f : Value → Sem Value} {g : Int → Int}
    (rule : ∀ (i : Int) (t : Tok) (s : Shared) (Q : Value → Shared → Prop) (E : Value → Shared → Prop), Q (.int (g i) s.toks) { s with toks := s.toks + 1 } → wpAny (model X.prog X.w) X.A (f (.int i t)) Q E s) :
    UnR X f (rU fun i => .int (g i)) := by
  intro pins s σ H x v Q I rx h
  obtain ⟨i, rfl, q⟩ := h
  obtain ⟨t, rfl⟩ := rx
  exact rule i t s _ _ ⟨.int (g i), H, I.tok _, ⟨_, rfl⟩, q⟩
theorem un_neg : UnR X (unaryOp .USub) (rU fun i => .int (-i)) := unI fun _ _ _ _ _ q => neg_int q
/-! ### bools among ints: n += (a < b) -/
end

/-! ### comparisons -/
/-- the scalars that == tells apart as data does -/
def scal : V → V → Bool
  | .non, .non => true | .non, .int _ => true | .int _, .non => true | .non, .bl _ => true | .bl _, .non => true | .non, .str _ => true | .str _, .non => true
  | .int _, .int _ => true | .bl _, .bl _ => true | .str _, .str _ => true | .byt _, .byt _ => true
  | .int _, .str _ => true | .str _, .int _ => true | .bl _, .str _ => true | .str _, .bl _ => true
  | _, _ => false
def rEq : R2 := fun x y H Q => scal x y = true ∧ Q (.bl (decide (x = y))) H
def rNe : R2 := fun x y H Q => scal x y = true ∧ Q (.bl (!decide (x = y))) H

theorem dec_int {i j : Int} : decide (V.int i = V.int j) = (i == j) := by
  rw [Bool.eq_iff_iff]
  simp
theorem dec_bl {i j : Bool} : decide (V.bl i = V.bl j) = (i == j) := by
  rw [Bool.eq_iff_iff]
  simp
theorem dec_str {i j : Str} : decide (V.str i = V.str j) = (i == j) := by
  rw [Bool.eq_iff_iff]
  simp
theorem dec_byt {i j : Array UInt8} : decide (V.byt i = V.byt j) = (i.toList == j.toList) := by
  rw [Bool.eq_iff_iff]
  cases i
  cases j
  simp

section
variable {X : Cx} {a b c : Expr} {ta tb tc : TE} {pos : Pos}
theorem fin_bl {pins : List (Addr × Obj)} {σ : St} {H : Hp} {s : Shared} {Q : VK} {k k' : Bool} (I : Inv X pins σ H s) (q : Q (.bl k) H) (e : k = k') : EP X pins σ Q (.bool k') s := by
  subst e
  exact ⟨.bl k, H, I, rfl, q⟩
theorem op_eq : OpR X (compareOp .Eq) rEq := by
  intro pins s σ H x y v u Q I rx ry h
  obtain ⟨hs, q⟩ := h
  cases x with
  | non =>
    cases rx
    cases y with
    | non => cases ry; exact PySem.EqNone.eq_none_none (fin_bl I q (by simp))
    | bl j => cases ry; exact PySem.EqNone.eq_none_bool (fin_bl I q (by simp))
    | int j => obtain ⟨t', rfl⟩ := ry; exact PySem.EqNone.eq_none_int (fin_bl I q (by simp))
    | str j => obtain ⟨t', rfl⟩ := ry; exact PySem.EqNone.eq_none_str (fin_bl I q (by simp))
    | _ => exact absurd (show false = true from hs) Bool.false_ne_true
  | bl i =>
    cases rx
    cases y with
    | non => cases ry; exact PySem.EqNone.eq_bool_none (fin_bl I q (by simp))
    | bl j => cases ry; exact eq_bool (fin_bl I q dec_bl)
    | str j => obtain ⟨t', rfl⟩ := ry; exact PySem.EqMixed.eq_bool_str (fin_bl I q (by simp))
    | _ => exact absurd (show false = true from hs) Bool.false_ne_true
  | int i =>
    obtain ⟨t, rfl⟩ := rx
    cases y with
    | non => cases ry; exact PySem.EqNone.eq_int_none (fin_bl I q (by simp))
    | int j => obtain ⟨t', rfl⟩ := ry; exact eq_int (fin_bl I q dec_int)
    | str j => obtain ⟨t', rfl⟩ := ry; exact PySem.EqMixed.eq_int_str (fin_bl I q (by simp))
    | _ => exact absurd (show false = true from hs) Bool.false_ne_true
  | str i =>
    obtain ⟨t, rfl⟩ := rx
    cases y with
    | non => cases ry; exact PySem.EqNone.eq_str_none (fin_bl I q (by simp))
    | bl j => cases ry; exact PySem.EqMixed.eq_str_bool (fin_bl I q (by simp))
    | int j => obtain ⟨t', rfl⟩ := ry; exact PySem.EqMixed.eq_str_int (fin_bl I q (by simp))
    | str j => obtain ⟨t', rfl⟩ := ry; exact eq_str (fin_bl I q dec_str)
    | _ => exact absurd (show false = true from hs) Bool.false_ne_true
  | byt i =>
    obtain ⟨t, rfl⟩ := rx
    cases y with
    | byt j => obtain ⟨t', rfl⟩ := ry; exact PySem.W.eq_bytes (fin_bl I q dec_byt)
    | _ => exact absurd (show false = true from hs) Bool.false_ne_true
  | _ => cases y <;> exact absurd (show false = true from hs) Bool.false_ne_true
theorem op_ne : OpR X (compareOp .NotEq) rNe := by
  intro pins s σ H x y v u Q I rx ry h
  obtain ⟨hs, q⟩ := h
  cases x with
  | non =>
    cases rx
    cases y with
    | non => cases ry; exact PySem.EqNone.ne_none_none (fin_bl I q (by simp))
    | bl j => cases ry; exact PySem.EqNone.ne_none_bool (fin_bl I q (by simp))
    | int j => obtain ⟨t', rfl⟩ := ry; exact PySem.EqNone.ne_none_int (fin_bl I q (by simp))
    | str j => obtain ⟨t', rfl⟩ := ry; exact PySem.EqNone.ne_none_str (fin_bl I q (by simp))
    | _ => exact absurd (show false = true from hs) Bool.false_ne_true
  | bl i =>
    cases rx
    cases y with
    | non => cases ry; exact PySem.EqNone.ne_bool_none (fin_bl I q (by simp))
    | bl j => cases ry; exact ne_bool (fin_bl I q (congrArg not dec_bl))
    | str j => obtain ⟨t', rfl⟩ := ry; exact PySem.EqMixed.ne_bool_str (fin_bl I q (by simp))
    | _ => exact absurd (show false = true from hs) Bool.false_ne_true
  | int i =>
    obtain ⟨t, rfl⟩ := rx
    cases y with
    | non => cases ry; exact PySem.EqNone.ne_int_none (fin_bl I q (by simp))
    | int j => obtain ⟨t', rfl⟩ := ry; exact ne_int (fin_bl I q (congrArg not dec_int))
    | str j => obtain ⟨t', rfl⟩ := ry; exact PySem.EqMixed.ne_int_str (fin_bl I q (by simp))
    | _ => exact absurd (show false = true from hs) Bool.false_ne_true
  | str i =>
    obtain ⟨t, rfl⟩ := rx
    cases y with
    | non => cases ry; exact PySem.EqNone.ne_str_none (fin_bl I q (by simp))
    | bl j => cases ry; exact PySem.EqMixed.ne_str_bool (fin_bl I q (by simp))
    | int j => obtain ⟨t', rfl⟩ := ry; exact PySem.EqMixed.ne_str_int (fin_bl I q (by simp))
    | str j => obtain ⟨t', rfl⟩ := ry; exact ne_str (fin_bl I q (congrArg not dec_str))
    | _ => exact absurd (show false = true from hs) Bool.false_ne_true
  | byt i =>
    obtain ⟨t, rfl⟩ := rx
    cases y with
    | byt j => obtain ⟨t', rfl⟩ := ry; exact PySem.W.ne_bytes (fin_bl I q (congrArg not dec_byt))
    | _ => exact absurd (show false = true from hs) Bool.false_ne_true
  | _ => cases y <;> exact absurd (show false = true from hs) Bool.false_ne_true

theorem op_lt : OpR X (compareOp .Lt) (rI0 fun i j => .bl (decide (i < j))) := opB0 fun _ _ _ _ _ _ _ q => lt_int q
theorem op_le : OpR X (compareOp .LtE) (rI0 fun i j => .bl (decide (i ≤ j))) := opB0 fun _ _ _ _ _ _ _ q => le_int q
theorem op_gt : OpR X (compareOp .Gt) (rI0 fun i j => .bl (decide (j < i))) := opB0 fun _ _ _ _ _ _ _ q => gt_int q
theorem op_ge : OpR X (compareOp .GtE) (rI0 fun i j => .bl (decide (j ≤ i))) := opB0 fun _ _ _ _ _ _ _ q => ge_int q
/-- two rules for one operation: by cases -/
theorem OpR.or {f : Value → Value → Sem Value} {r r' : R2} (h : OpR X f r) (h' : OpR X f r') : OpR X f (fun x y H Q => r x y H Q ∨ r' x y H Q) := by
  intro pins s σ H x y v u Q I rx ry q
  rcases q with q | q
  · exact h pins s σ H x y v u Q I rx ry q
  · exact h' pins s σ H x y v u Q I rx ry q

theorem nomark (b : Expr) {op : CmpOp} (h : op ≠ .In := by decide) (h2 : op ≠ .NotIn := by decide) : behindInMarks op b = false := by
  have e1 : (op == CmpOp.In) = false := by cases op <;> first | rfl | exact absurd rfl h
  have e2 : (op == CmpOp.NotIn) = false := by cases op <;> first | rfl | exact absurd rfl h2
  cases b <;> simp [behindInMarks, e1, e2]
/-- a comparison as a value; hm: nomark b, or (for in, not in) by with_unfolding_all rfl -/
theorem pe_cmpR {op : CmpOp} {r : R2} (ho : OpR X (compareOp op) r) (ha : PE X a ta) (hb : PE X b tb) (hm : behindInMarks op b = false) : PE X (.Compare a [op] [b] pos) (tOp r ta tb) := by
  intro pins s σ H Q I h
  exact wpAny_Compare1 (binT ha hb I h fun v u s2 x y H2 I2 rx ry q => ho pins s2 σ H2 x y v u Q I2 rx ry q) hm
/-- a reading of a value as a test -/
def tTest (t : TE) : TT := fun σ H Q => t σ H fun x H' => ∃ k, x = .bl k ∧ Q k H'
theorem pt_cmpR {op : CmpOp} {r : R2} (ho : OpR X (compareOp op) r) (ha : PE X a ta) (hb : PE X b tb) (hm : behindInMarks op b = false) : PT X (.Compare a [op] [b] pos) (tTest (tOp r ta tb)) := by
  intro pins s σ H Q I h
  refine wpAny_isTrue_Compare1 (thn (ha pins s σ H _ I h) fun v s1 ⟨x, H1, I1, r1, q1⟩ => thn (hb pins s1 σ H1 _ I1 q1) fun u s2 ⟨y, H2, I2, r2, q2⟩ =>
    thn (ho pins s2 σ H2 x y v u _ I2 r1 r2 q2) fun c s3 ⟨z, H3, I3, r3, k, e, q3⟩ => ?_) hm
  subst e
  cases r3
  exact wpAny_truthy_bool ⟨H3, I3, q3⟩
/-- a op1 b op2 c -/
def tChain (r r' : R2) (ta tb tc : TE) : TE := fun σ H Q => ta σ H fun x H1 => tb σ H1 fun y H2 => r x y H2 fun z H3 => ∃ k, z = .bl k ∧
  (if k = true then tc σ H3 fun w' H4 => r' y w' H4 Q else Q (.bl false) H3)
theorem pe_chain {op op' : CmpOp} {r r' : R2} (ho : OpR X (compareOp op) r) (ho' : OpR X (compareOp op') r') (ha : PE X a ta) (hb : PE X b tb) (hc : PE X c tc)
    (hm : lastMarks [op, op'] [b, c] = false := by with_unfolding_all rfl) : PE X (.Compare a [op, op'] [b, c] pos) (tChain r r' ta tb tc) := by
  intro pins s σ H Q I h
  refine Compare_chain (thn (ha pins s σ H _ I h) fun v s1 ⟨x, H1, I1, r1, q1⟩ => chain_link (thn (hb pins s1 σ H1 _ I1 q1) fun u s2 ⟨y, H2, I2, r2, q2⟩ =>
    thn (ho pins s2 σ H2 x y v u _ I2 r1 r2 q2) fun d s3 ⟨z, H3, I3, r3, k, e, q3⟩ => ?_)) hm
  subst e
  cases r3
  refine wpAny_truthy_bool ?_
  cases k with
  | false => exact ite_ff ⟨.bl false, H3, I3, rfl, q3⟩
  | true => exact ite_tt (chain_last (thn (hc pins s3 σ H3 _ I3 q3) fun w' s4 ⟨z', H4, I4, r4, q4⟩ => ho' pins s4 σ H4 y z' u w' Q I4 r2 r4 q4))
/-! ### truth -/
theorem line63 : (sizeLine : Nat) < 2 ^ 63 := by rw [sizeLine_eq]; decide
/-! ### strs and bytes -/
/-! ### scalar builtins, by CallR -/
theorem vals1 {x : V} {us : List Value} (r : Vals [x] us) : ∃ u, us = [u] ∧ RelV x u := by
  cases r with
  | cons r1 r2 => cases r2; exact ⟨_, rfl, r1⟩
theorem vals2 {x y : V} {us : List Value} (r : Vals [x, y] us) : ∃ u w', us = [u, w'] ∧ RelV x u ∧ RelV y w' := by
  cases r with
  | cons r1 r2 =>
    cases r2 with
    | cons r3 r4 => cases r4; exact ⟨_, _, rfl, r1, r3⟩
theorem call_max2 (hc : X.calm = true) : CallR X (.builtin "max") (fun xs H Q => ∃ i j, xs = [.int i, .int j] ∧ Q (.int (if j > i then j else i)) H) := by
  intro pins s σ H xs us Q I r h
  obtain ⟨i, j, rfl, q⟩ := h
  obtain ⟨u, w', rfl, ⟨t, rfl⟩, ⟨t', rfl⟩⟩ := vals2 r
  refine max_two_ints (I.ok.hd hc) fun h' tk k => ⟨_, H, I.kept k, ?_, q⟩
  by_cases hj : j > i
  · rw [if_pos hj, if_pos hj]; exact ⟨_, rfl⟩
  · rw [if_neg hj, if_neg hj]; exact ⟨_, rfl⟩
end
end L2

namespace L2
open PySem PySem.Spec PyProof.Rows

/-! ### an instance, its attributes a map -/
structure ObjM (h : Heap) (x dx C : Addr) (mA : Str → Option Value) : Prop where
  obj : h.get? x = some (PySem.W.instObj C dx)
  ns : h.Ns1 dx mA
  ne : dx ≠ x

theorem lookIn_ns {h : Heap} {dx : Addr} {mA : Str → Option Value} (n : h.Ns1 dx mA) : ∃ od, h.get? dx = some od ∧ ∀ name, PySem.W.lookIn name od = some (mA name) := by
  obtain ⟨o, es, ep, ho, hd, hk, _, hm⟩ := n
  refine ⟨o, ho, fun name => ?_⟩
  have e := hm name
  unfold nsFind findBy at e
  rw [← Array.find?_toList] at e
  unfold PySem.W.lookIn
  rw [hd]
  dsimp only
  split
  · rename_i y q
    rw [q] at e
    exact congrArg some e
  · rename_i q
    rw [q] at e
    have a : es.toList.any (·.refKey) = false := by
      rw [List.any_eq_false]
      intro y hy
      obtain ⟨z, t, hkey⟩ := hk y (Array.mem_toList_iff.mp hy)
      simp [DictEntry.refKey, hkey]
    have a' : ¬ es.toList.any (·.refKey) = true := by rw [a]; exact Bool.false_ne_true
    rw [if_neg a']
    exact congrArg some e

theorem ObjM.look {h : Heap} {x dx C : Addr} {mA : Str → Option Value} (I : ObjM h x dx C mA) : ∃ od, PySem.W.InstAt h x (PySem.W.instObj C dx) C (some od) ∧ ∀ name, PySem.W.lookIn name od = some (mA name) :=
  let ⟨od, ho, hl⟩ := lookIn_ns I.ns
  ⟨od, ⟨I.obj, rfl, rfl, ho⟩, hl⟩

section
variable {prog : Program} {w : World} {A : Around} {E : Value → Shared → Prop} {s : Shared} {K : PySem.W.Frag} {x dx C f : Addr} {mA : Str → Option Value} {name : Str} {v : Value}

end

/-! ### the attributes as a list of pairs -/
theorem RelO.some_of {v : V} {o : Option Value} (r : RelO (some v) o) : ∃ u, o = some u ∧ RelV v u := by
  cases o with
  | none => exact (show False from r).elim
  | some u => exact ⟨u, rfl, r⟩
section
variable {P : Program} {w : World} {H H' : Hp} {h h' : Heap} {a C dx : Addr} {fs fs' : List (Str × V)}
theorem ins_get (hok : HOk P w H h) (e : H a = some (.ins C dx fs)) : ∃ mA, ObjM h a dx C mA ∧ (∀ f, RelO (fs.lookup f) (mA f)) ∧ PySem.Within mA (fs.map (·.1)) ∧ fs.length ≤ 1000 ∧ H dx = some (.own a) := by
  obtain ⟨d, z, ne, ob, mA, n, r, q⟩ := (show ObjOk P w H h a (.ins C dx fs) from hok a _ e)
  exact ⟨mA, ⟨ob, n, ne⟩, r, q, z, d⟩
end

/-! ### what of the text a class must have -/
structure Cls (K : PySem.W.Frag) (C : Addr) : Prop where
  pg : PySem.W.plainGet K C Str.empty = true
  hd : PySem.W.hasDictIn K C = true
  po : PySem.W.plainOver K C = true
  sa : PySem.W.findIn K (.ref C) "__setattr__" = some (some (.builtin "object.__setattr__"))
theorem Cls.get {K : PySem.W.Frag} {C : Addr} (c : Cls K C) (f : Str) : PySem.W.plainGet K C f = true := c.pg
section
variable {X : Cx} {pins : List (Addr × Obj)} {σ : St} {H : Hp} {s : Shared} {a C dx : Addr} {fs : List (Str × V)} {f : Str} {v : V} {A : Around} {E : Value → Shared → Prop}

/-- a new instance, tracked, without attributes -/
theorem Inv.made (I : Inv X pins σ H s) : Inv X pins σ (upd (upd H s.heap.objs.size (.own (s.heap.objs.size + 1))) (s.heap.objs.size + 1) (.ins C s.heap.objs.size []))
    { s with heap := (s.heap.push PySem.W.emptyDict).push (PySem.W.instObj C s.heap.objs.size) } := by
  have e1 : (s.heap.push PySem.W.emptyDict).get? s.heap.objs.size = some PySem.W.emptyDict := Heap.get?_push_size s.heap rfl
  have e2 : ((s.heap.push PySem.W.emptyDict).push (PySem.W.instObj C s.heap.objs.size)).get? (s.heap.objs.size + 1) = some (PySem.W.instObj C s.heap.objs.size) := by
    have := Heap.get?_push_size (s.heap.push PySem.W.emptyDict) (o := PySem.W.instObj C s.heap.objs.size) rfl
    rwa [Heap.size_push] at this
  have e3 : (s.heap.push PySem.W.emptyDict).Ns s.heap.objs.size (fun _ => none) := ⟨PySem.W.emptyDict, #[], _, e1, rfl, (fun e he => absurd he (by simp)), fun _ => rfl⟩
  have I1 := I.laid (a := s.heap.objs.size) (o := .own (s.heap.objs.size + 1)) (h' := s.heap.push PySem.W.emptyDict) (t' := s.toks) (fun b u q => Heap.get?_push_of_some _ q) (Nat.le_refl _) ⟨_, e1⟩
  refine I1.laid (a := s.heap.objs.size + 1) (o := .ins C s.heap.objs.size []) (t' := s.toks) (fun b u q => Heap.get?_push_of_some _ q) (Nat.le_of_eq (Heap.size_push _ _)) ?_
  have ne : s.heap.objs.size ≠ s.heap.objs.size + 1 := Nat.ne_of_lt (Nat.lt_succ_self _)
  refine ⟨by rw [upd_ne ne, upd_same], Nat.zero_le _, ne, e2, fun _ => none, (Heap.Ns1.of_empty e3).at fun o q => Heap.get?_push_of_some _ q, fun _ => True.intro, fun y hy => absurd rfl hy⟩

end

/-! ### readings and rules -/
section
variable {X : Cx} {o e value : Expr} {f : Str} {pos pos' tpos : Pos} {ta tv : TE}
end

/-! ### isinstance -/
section
variable {X : Cx} {pins : List (Addr × Obj)} {σ : St} {H : Hp} {s : Shared} {A : Around} {E : Value → Shared → Prop} {Q : Value → Shared → Prop} {c : Value} {b : Bool}
/-- the type of a value, as the fragment's deciders take it; for an instance its class -/
inductive TyOf (K : PySem.W.Frag) (H : Hp) : V → Value → Prop where
  | non : TyOf K H .non (.type "NoneType")
  | bl (x : Bool) : TyOf K H (.bl x) (.type "bool")
  | int (i : Int) : TyOf K H (.int i) (.type "int")
  | str (x : Str) : TyOf K H (.str x) (.type "str")
  | flt (x : UInt64) : TyOf K H (.flt x) (.type "float")
  | lst {a : Addr} {xs : List V} (e : H a = some (.lst xs)) : TyOf K H (.ref a) (.type "list")
  | frz {a : Addr} {o : Obj} {xs : List V} (e : H a = some (.frz o (.lst xs))) : TyOf K H (.ref a) (.type "list")
  | tup {a : Addr} {xs : List V} (e : H a = some (.tup xs)) : TyOf K H (.ref a) (.type "tuple")
  | dK {a : Addr} {kvs : List (Key × V)} (e : H a = some (.dK kvs)) : TyOf K H (.ref a) (.type "dict")
  | dT {a : Addr} {kvs : List (List Key × V)} (e : H a = some (.dT kvs)) : TyOf K H (.ref a) (.type "dict")
  | ins {a C dx : Addr} {fs : List (Str × V)} (e : H a = some (.ins C dx fs)) (cl : Cls K C) (ha : PySem.W.findIn K (.ref C) "__class__" = some (some (.builtin "object.__class__")))
      (hn : PySem.W.specialIn K (.builtin "object.__class__") "__get__" = some (some (.builtin "getset_descriptor.__get__"))) (htk : PySem.W.takesIn K (.builtin "object.__class__") = some true)
      (hm : PySem.W.mroIn K C (.type "object") = some true) : TyOf K H (.ref a) (.ref C)
/-- isinstance(x, c) for one class c, a built-in or an own one: kitOne's answer -/
theorem isinst_ok {x : V} {u t : Value} (I : Inv X pins σ H s) (rx : RelV x u) (ty : TyOf X.K H x t) (e : PySem.W.kitOne X.K t c = some b) (h : ∀ tk, Q (.bool b) { s with toks := tk }) :
    wpAny (model X.prog X.w) A (call (.builtin "isinstance") [u, c]) Q E s := by
  cases ty with
  | non => cases (show u = Value.none from rx); exact PySem.W.kia_one PySem.W.kitx_none I.kIn True.intro e (fun z => nomatch z) h
  | bl y => cases (show u = Value.bool y from rx); exact PySem.W.kia_one PySem.W.kitx_bool I.kIn True.intro e (fun z => nomatch z) h
  | int i => obtain ⟨t, q⟩ := (show ∃ t, u = Value.int i t from rx); cases q; exact PySem.W.kia_one PySem.W.kitx_int I.kIn True.intro e (fun z => nomatch z) h
  | str y => obtain ⟨t, q⟩ := (show ∃ t, u = Value.str y t from rx); cases q; exact PySem.W.kia_one PySem.W.kitx_str I.kIn True.intro e (fun z => nomatch z) h
  | flt y => obtain ⟨t, q⟩ := (show ∃ t, u = Value.float y t from rx); cases q; exact PySem.W.kia_one PySem.W.kitx_float I.kIn True.intro e (fun z => nomatch z) h
  | @lst a xs ea =>
    cases (show u = Value.ref a from rx)
    obtain ⟨_, _, n, _, h1⟩ := (show ObjOk X.prog X.w H s.heap a (.lst xs) from I.hok a _ ea)
    exact PySem.W.kia_one PySem.W.kitx_list I.kIn ⟨_, h1, rfl⟩ e (fun z => nomatch z) h
  | @frz a ob xs ea =>
    cases (show u = Value.ref a from rx)
    obtain ⟨_, _, _, n, _, h1⟩ := (show ObjOk X.prog X.w H s.heap a (.frz ob (.lst xs)) from I.hok a _ ea)
    exact PySem.W.kia_one PySem.W.kitx_list I.kIn ⟨_, h1, rfl⟩ e (fun z => nomatch z) h
  | @tup a xs ea =>
    cases (show u = Value.ref a from rx)
    obtain ⟨_, _, _, p⟩ := (show ObjOk X.prog X.w H s.heap a (.tup xs) from I.hok a _ ea)
    obtain ⟨o, h1, h2, _⟩ := p
    exact PySem.W.kia_one PySem.W.kitx_tuple I.kIn ⟨o, h1, h2⟩ e (fun z => nomatch z) h
  | @dK a kvs ea =>
    cases (show u = Value.ref a from rx)
    obtain ⟨_, _, vs, _, p⟩ := (show ObjOk X.prog X.w H s.heap a (.dK kvs) from I.hok a _ ea)
    obtain ⟨o, es, ep, h1, h2, _⟩ := p
    exact PySem.W.kia_one PySem.W.kitx_dict I.kIn ⟨o, h1, h2.1⟩ e (fun z => nomatch z) h
  | @dT a kvs ea =>
    cases (show u = Value.ref a from rx)
    obtain ⟨_, _, xs, _, o, es, ep, h1, h2, _⟩ := (show ObjOk X.prog X.w H s.heap a (.dT kvs) from I.hok a _ ea)
    exact PySem.W.kia_one PySem.W.kitx_dict I.kIn ⟨o, h1, h2.1⟩ e (fun z => nomatch z) h
  | @ins a C dx fs ea cl ha hn htk hm =>
    cases (show u = Value.ref a from rx)
    obtain ⟨mA, O, _⟩ := ins_get I.hok ea
    obtain ⟨od, J, _⟩ := O.look
    exact PySem.W.kia_one (PySem.W.kitx_own (cl.get _) cl.hd ha hn htk hm) I.kIn J e (fun z => nomatch z) h
end
end L2

namespace L2
open PySem PySem.Spec PyProof.Rows

/-! ### room -/
structure Room (k : Nat) (A : Around) : Prop where
  hd : A.handled = none
  dp : A.depth + 3 * k + 5 < recursionLimit
  un : A.units + 16 * k + 200 < cLine
theorem Room.mono {j k : Nat} {A : Around} (r : Room k A) (h : j ≤ k) : Room j A := ⟨r.hd, by have := r.dp; omega, by have := r.un; omega⟩
theorem Room.deeper {k : Nat} {A : Around} (r : Room (k + 1) A) (env : Env) : Room k (A.deeper env) :=
  ⟨r.hd, by have := r.dp; show A.depth + 1 + 3 * k + 5 < _; omega, by have := r.un; show A.units + 3 + 16 * k + 200 < _; omega⟩
theorem Room.in1 {k : Nat} {A : Around} (r : Room (k + 1) A) : Room k A.in1 :=
  ⟨r.hd, by have := r.dp; show A.depth + 3 * k + 5 < _; omega, by have := r.un; show A.units + 1 + 16 * k + 200 < _; omega⟩
theorem Room.depth {k : Nat} {A : Around} (r : Room k A) : A.depth < recursionLimit := by have := r.dp; omega
theorem Room.units {k : Nat} {A : Around} (r : Room k A) : A.units + 64 < cLine := by have := r.un; omega
/-! ### argument lists and displays -/
def tNil : TA := fun _ H Q => Q [] H
def tCons (ta : TE) (tr : TA) : TA := fun σ H Q => ta σ H fun x H1 => tr σ H1 fun xs H2 => Q (x :: xs) H2
section
variable {X : Cx} {e : Expr} {es : List Expr} {te : TE} {t : TA} {pos : Pos}
theorem pa_nil : PA X [] tNil := fun _ _ _ _ H Q I h => Calls.spliced_nil ⟨[], H, I, .nil, h⟩
theorem pa_cons (ha : PE X e te) (hr : PA X es t) (hs : starEach (e :: es) X.env = (false, eval e X.env) :: starEach es X.env := by rfl) : PA X (e :: es) (tCons te t) := by
  intro pos pins s σ H Q I h
  rw [hs]
  show wpAny _ _ (spliced ((false, eval e X.env) :: backTo pos (starEach es X.env))) _ _ s
  refine Calls.spliced_cons (thn (ha pins s σ H _ I h) fun u s1 ⟨x, H1, I1, r1, q1⟩ => ?_)
  exact thn (hr pos pins s1 σ H1 _ I1 q1) fun us s2 ⟨xs, H2, I2, r2, q2⟩ => ⟨x :: xs, H2, I2, .cons r1 r2, q2⟩

/-- a tuple, a list of written items -/
def tTup (t : TA) : TE := fun σ H Q => t σ H fun xs H1 => xs.length ≤ sizeLine ∧ ∀ p, H1 p = none → Q (.ref p) (upd H1 p (.tup xs))
def tLst (t : TA) : TE := fun σ H Q => t σ H fun xs H1 => xs.length ≤ sizeLine ∧ ∀ p, H1 p = none → Q (.ref p) (upd H1 p (.lst xs))
theorem pe_tup {x1} (h : PA X es t) : PE X (.Tuple es x1 pos) (tTup t) := by
  intro pins s σ H Q I hq
  refine wpAny_Tuple_spliced (thn (h pos pins s σ H _ I hq) fun us s1 ⟨xs, H1, I1, r, z, q⟩ => ⟨by rw [← r.length]; exact z, ?_⟩)
  have hf : H1 s1.heap.objs.size = none := I1.hok.fresh (Nat.le_refl _)
  refine ⟨.ref s1.heap.objs.size, upd H1 s1.heap.objs.size (.tup xs), I1.laid (t' := s1.toks) (fun b u e => Heap.get?_push_of_some _ e) (Nat.le_refl _) ?_, rfl, q _ hf⟩
  exact ⟨z, us, r, ⟨_, Heap.get?_push_size _ rfl, rfl, _, rfl⟩⟩
theorem pe_lst (h : PA X es t) : PE X (.List es pos) (tLst t) := by
  intro pins s σ H Q I hq
  refine wpAny_List_spliced (thn (h pos pins s σ H _ I hq) fun us s1 ⟨xs, H1, I1, r, z, q⟩ => ⟨by rw [← r.length]; exact z, ?_⟩)
  have hf : H1 s1.heap.objs.size = none := I1.hok.fresh (Nat.le_refl _)
  refine ⟨.ref s1.heap.objs.size, upd H1 s1.heap.objs.size (.lst xs), I1.laid (t' := s1.toks) (fun b u e => Heap.get?_push_of_some _ e) (Nat.le_refl _) ?_, rfl, q _ hf⟩
  exact ⟨z, us, 0, r, Heap.get?_push_size _ rfl⟩
end

/-! ### what a def promises -/
/-- a def's promise: the bound arguments in the parameters' order, the heap, the wanted end, the wanted exception -/
abbrev Sp := List V → Hp → VK → XK → Prop
/-- how an exception lies behind a call (file 08 gives it): the callers' frames, abstract heap and state ahead of the call, the wish, the exception, the state -/
abbrev CXT := List Env → Hp → Shared → XK → Value → Shared → Prop

/-- the state at a call -/
structure Env0 (P : Program) (w : World) (K : PySem.W.Frag) (mg : Str → Option Value) (base : Heap) (A : Around) (outer : List Env) (s : Shared) (H : Hp) : Prop where
  frames : A.frames = some outer
  mod : Mod K mg base
  bs : ∀ b o, base.get? b = some o → s.heap.get? b = some o ∧ H b = none
  bsz : base.objs.size ≤ s.heap.objs.size
  funs : s.heap.FunFrames base outer
  frf : ∀ b ∈ frs outer, H b = none
  hok : HOk P w H s.heap
  bare : AllBare s.gens
/-- a call's end -/
def CE (outer : List Env) (P : Program) (w : World) (H : Hp) (s : Shared) (Q : VK) (u : Value) (s' : Shared) : Prop :=
  ∃ v H', s'.os = s.os ∧ AllBare s'.gens ∧ Un (frs outer) [] H H' s.heap s'.heap ∧ HOk P w H' s'.heap ∧ RelV v u ∧ Q v H'
def CR (CX : CXT) (outer : List Env) (P : Program) (w : World) (H : Hp) (s : Shared) (Q : VK) (E : XK) (r : Result) (s' : Shared) : Prop :=
  match r with
  | .ok (.ret u) => CE outer P w H s Q u s'
  | .ok _ => False
  | .error e => CX outer H s E e s'
structure FnOk (P : Program) (w : World) (K : PySem.W.Frag) (mg : Str → Option Value) (base : Heap) (CX : CXT) (k : Nat) (f : Addr) (fd : FuncData) (ps : List Str) (sp : Sp) : Prop where
  len : ∀ vs H Q E, sp vs H Q E → vs.length = ps.length
  run : ∀ (A : Around) (outer : List Env) (s : Shared) (H : Hp) (args : Args) (us : List Value) (vs : List V) (Q : VK) (E : XK), Room k A → Env0 P w K mg base A outer s H → BindsTo s fd args (ps.zip us) → Vals vs us → sp vs H Q E →
    codeAny (model P w) A (.call (.ref f) args) (CR CX outer P w H s Q E) s
theorem FnOk.mono {P : Program} {w : World} {K : PySem.W.Frag} {mg : Str → Option Value} {base : Heap} {CX : CXT} {j k : Nat} {f : Addr} {fd : FuncData} {ps : List Str} {sp : Sp} (F : FnOk P w K mg base CX j f fd ps sp) (h : j ≤ k) :
    FnOk P w K mg base CX k f fd ps sp := ⟨F.len, fun A outer s H args us vs Q E hr => F.run A outer s H args us vs Q E (hr.mono h)⟩
/-- a weaker promise -/
theorem FnOk.imp {P : Program} {w : World} {K : PySem.W.Frag} {mg : Str → Option Value} {base : Heap} {CX : CXT} {k : Nat} {f : Addr} {fd : FuncData} {ps : List Str} {sp sp' : Sp} (F : FnOk P w K mg base CX k f fd ps sp)
    (h : ∀ vs H Q E, sp' vs H Q E → sp vs H Q E) : FnOk P w K mg base CX k f fd ps sp' :=
  ⟨fun vs H Q E q => F.len vs H Q E (h _ _ _ _ q), fun A outer s H args us vs Q E hr he hb hv hs => F.run A outer s H args us vs Q E hr he hb hv (h _ _ _ _ hs)⟩

theorem Env0.in1 {P : Program} {w : World} {K : PySem.W.Frag} {mg : Str → Option Value} {base : Heap} {A : Around} {outer : List Env} {s : Shared} {H : Hp} (e : Env0 P w K mg base A outer s H) :
    Env0 P w K mg base A.in1 outer s H := ⟨e.frames, e.mod, e.bs, e.bsz, e.funs, e.frf, e.hok, e.bare⟩

section
variable {X : Cx} {pins : List (Addr × Obj)} {σ : St} {H : Hp} {s s' : Shared}
/-- from a body: what a callee wants -/
theorem Inv.env0 (I : Inv X pins σ H s) : Env0 X.prog X.w X.K X.mg X.base X.A X.stack s H :=
  ⟨I.ok.frames, I.ok.mod, I.bs, Nat.le_trans I.ok.bsz I.sz, I.stack, I.stkFree, I.hok, I.bare⟩
/-- behind a call -/
theorem Inv.after {Q : VK} {u : Value} (I : Inv X pins σ H s) (h : CE X.stack X.prog X.w H s Q u s') : EP X pins σ Q u s' := by
  obtain ⟨v, H', os, bare, un, hok, r, q⟩ := h
  obtain ⟨hh, g, d, t, os'⟩ := s'
  obtain rfl : os' = s.os := os
  exact ⟨v, H', I.call (h' := hh) (g' := g) (d' := d) (t' := t) (ch := []) un hok bare (fun b z => absurd z (by simp)), r, q⟩
end

/-! ### calls -/
/-- f(..): the written arguments, then the defaults dvs; E: what is wanted of an exception -/
def tCall (sp : Sp) (dvs : List V) (E : XK) (t : TA) : TE := fun σ H Q => t σ H fun vs H1 => sp (vs ++ dvs) H1 Q E
/-- how the parameters are bound: us the positional arguments, kw the keywords' values by name, ds the defaults that fill up -/
def Binds (K : PySem.W.Frag) (fd : FuncData) (ps : List Str) (ds : List Value) : Prop :=
  ∀ (s : Shared) (us : List Value), K.In s.heap → (us ++ ds).length = ps.length → BindsTo s fd ⟨us, []⟩ (ps.zip (us ++ ds))
/-- every parameter is given -/
theorem Binds.all {K : PySem.W.Frag} {fd : FuncData} {ps : List Str} (h : ∀ us : List Value, us.length = ps.length → bindArgs fd ⟨us, []⟩ = pure (ps.zip us)) : Binds K fd ps [] := fun s us _ hl => by
  rw [List.append_nil] at hl ⊢
  exact .of_eq (h us hl)

/-- an exception of a callee reaches what this body wants of exceptions -/
def Passes (CX : CXT) (X : Cx) (E : XK) : Prop := ∀ (pins : List (Addr × Obj)) (σ : St) (H : Hp) (s : Shared) (e : Value) (s' : Shared), Inv X pins σ H s → CX X.stack H s E e s' → X.xe e s'

section
variable {X : Cx} {CX : CXT} {k : Nat} {f C : Addr} {fd : FuncData} {ps : List Str} {sp : Sp} {dvs : List V} {ds : List Value} {E : XK} {x m : Str} {p pos apos : Pos} {e o : Expr} {es : List Expr} {ta : TE} {t : TA}

/-- the callee runs -/
theorem run_fn {pins : List (Addr × Obj)} {σ : St} {H : Hp} {s : Shared} {Q : VK} {us : List Value} {vs : List V} (F : FnOk X.prog X.w X.K X.mg X.base CX k f fd ps sp) (hr : Room k X.A) (hb : Binds X.K fd ps ds) (hd : Vals dvs ds) (hx : Passes CX X E)
    (I : Inv X pins σ H s) (r : Vals vs us) (h : sp (vs ++ dvs) H Q E) : wpAny (model X.prog X.w) X.A (call (.ref f) us) (EP X pins σ Q) X.xe s := by
  have r2 : Vals (vs ++ dvs) (us ++ ds) := r.append hd
  have hl : (us ++ ds).length = ps.length := by rw [← r2.length]; exact F.len _ _ _ _ h
  refine wpAny_call (codeAny_mono (F.run X.A X.stack s H ⟨us, []⟩ (us ++ ds) (vs ++ dvs) Q E hr I.env0 (hb s us I.kIn hl) r2 h) fun r s' hq => ?_)
  cases r with
  | error e => exact hx pins σ H s e s' I hq
  | ok fl =>
    cases fl with
    | ret u => exact I.after hq
    | next => exact False.elim hq
    | brk => exact False.elim hq
    | cont => exact False.elim hq

theorem pe_call (F : FnOk X.prog X.w X.K X.mg X.base CX k f fd ps sp) (hr : Room k X.A) (hg : Gl X x) (hm : X.mg x = some (.ref f)) (hk : PySem.W.keepIn X.K (.ref f) = true) (hb : Binds X.K fd ps ds) (hd : Vals dvs ds) (hx : Passes CX X E)
    (ha : PA X (e :: es) t) (hdb : (x == ("__debug__" : Str)) = false := by decide) (he : starEach (e :: es) X.env = (false, eval e X.env) :: starEach es X.env := by rfl) (hpl : (backTo pos (starEach es X.env)).any (·.1) = false := by rfl) :
    PE X (.Call (.Name x p) (e :: es) [] pos) (tCall sp dvs E t) := by
  intro pins s σ H Q I h
  refine wpAny_Call_Name_kw (ld_glob I hg hm ?_ hdb)
  refine PySem.W.callWith_K (h₀ := X.base) I.ok.mod.kin hk (thn (ha pos pins s σ H _ I h) fun us s1 ⟨vs, H1, I1, r, q⟩ => ⟨I1.kIn, ?_⟩) he hpl
  exact run_fn F hr hb hd hx I1 r q
end

/-! ### keywords -/
section
variable {X : Cx} {CX : CXT} {k : Nat} {f C : Addr} {fd : FuncData} {ps ks : List Str} {sp : Sp} {E : XK} {x m : Str} {p pos apos kpos : Pos} {e o : Expr} {es : List Expr} {kws : List Keyword} {te ta : TE} {t tk : TA} {nm : Option Str}
variable {g : List Value → List Value → List Value} {gV : List V → List V → List V}
end

/-! ### a def's body keeps its promise -/
/-- names: the parameters first -/
structure FnScope (N P : List Str) (sc : Scope) : Prop where
  kind : sc.kind = .function
  co : sc.isCoroutine = false
  gen : sc.isGenerator = false
  nd : N.Nodup
  pre : N.take P.length = P
  par : ∀ x ∈ P, sc.names.lookup x = some .local ∨ sc.names.lookup x = some .cell
  nofree : ∀ y ∈ sc.names, y.2 ≠ .free

theorem bindL_out {kindOf : Str → Option NameKind} {x : Str} : ∀ {binds : List (Str × Value)} {m : Str → Option Value}, (∀ v, (x, v) ∉ binds) → bindL kindOf binds m x = m x
  | [], _, _ => rfl
  | (n, v) :: r, m, h => by
    unfold bindL
    rw [bindL_out fun w hw => h w (List.mem_cons_of_mem _ hw)]
    split
    · have : x ≠ n := by rintro rfl; exact h v List.mem_cons_self
      simp [this]
    · rfl
theorem bindC_out {kindOf : Str → Option NameKind} {x : Str} : ∀ {binds : List (Str × Value)} {m : Str → Option Value}, (∀ v, (x, v) ∉ binds) → bindC kindOf binds m x = m x
  | [], _, _ => rfl
  | (n, v) :: r, m, h => by
    unfold bindC
    rw [bindC_out fun w hw => h w (List.mem_cons_of_mem _ hw)]
    split
    · rfl
    · have : x ≠ n := by rintro rfl; exact h v List.mem_cons_self
      simp [this]
theorem bindL_get {kindOf : Str → Option NameKind} {x : Str} {v : Value} : ∀ {P : List Str} {vs : List Value} {i : Nat} {m : Str → Option Value}, P.Nodup → P[i]? = some x → vs[i]? = some v → kindOf x = some .local →
    bindL kindOf (P.zip vs) m x = some v
  | [], _, _, _, _, h, _, _ => by simp at h
  | _ :: _, [], _, _, _, _, h, _ => by simp at h
  | p :: P, w :: vs, 0, m, nd, h1, h2, hk => by
    simp at h1 h2; subst h1; subst h2
    show bindL kindOf ((p, w) :: P.zip vs) m p = _
    unfold bindL
    rw [bindL_out fun v hv => (List.nodup_cons.mp nd).1 (List.of_mem_zip hv).1, if_pos hk]
    simp
  | p :: P, w :: vs, i + 1, m, nd, h1, h2, hk => by
    show bindL kindOf ((p, w) :: P.zip vs) m x = _
    unfold bindL
    exact bindL_get (i := i) (List.nodup_cons.mp nd).2 (by simpa using h1) (by simpa using h2) hk
theorem bindC_get {kindOf : Str → Option NameKind} {x : Str} {v : Value} : ∀ {P : List Str} {vs : List Value} {i : Nat} {m : Str → Option Value}, P.Nodup → P[i]? = some x → vs[i]? = some v → kindOf x ≠ some .local →
    bindC kindOf (P.zip vs) m x = some v
  | [], _, _, _, _, h, _, _ => by simp at h
  | _ :: _, [], _, _, _, _, h, _ => by simp at h
  | p :: P, w :: vs, 0, m, nd, h1, h2, hk => by
    simp at h1 h2; subst h1; subst h2
    show bindC kindOf ((p, w) :: P.zip vs) m p = _
    unfold bindC
    rw [bindC_out fun v hv => (List.nodup_cons.mp nd).1 (List.of_mem_zip hv).1, if_neg hk]
    simp
  | p :: P, w :: vs, i + 1, m, nd, h1, h2, hk => by
    show bindC kindOf ((p, w) :: P.zip vs) m x = _
    unfold bindC
    exact bindC_get (i := i) (List.nodup_cons.mp nd).2 (by simpa using h1) (by simpa using h2) hk

/-- the names' values at the entry -/
def start (N : List Str) (vs : List V) : St := vs.map some ++ List.replicate (N.length - vs.length) none

/-- the context of a def's body, at its entry; an exception leaves the frame, then lies as CX says -/
def cxOf (CX : CXT) (P : Program) (w : World) (K : PySem.W.Frag) (mg : Str → Option Value) (base : Heap) (N : List Str) (qual : Str) (scope : Scope) (f : Addr) (cd : Value) (A : Around) (outer : List Env) (s : Shared) (H : Hp) (E : XK) : Cx where
  prog := P
  w := w
  K := K
  mg := mg
  base := base
  A := A.deeper (envOfC qual scope s.heap.objs.size f cd)
  N := N
  s₀ := s
  H₀ := H
  env := envOfC qual scope s.heap.objs.size f cd
  outer := outer
  stack := envOfC qual scope s.heap.objs.size f cd :: outer
  ex := []
  calm := true
  fn := fun _ => true
  pn := []
  xe := fun e s' => wpAny (model P w) (A.deeper (envOfC qual scope s.heap.objs.size f cd)) (leaving (envOfC qual scope s.heap.objs.size f cd) e) (fun _ s'' => CX outer H s E e s'') (fun e' s'' => CX outer H s E e' s'') s'

theorem cell_has {sc : Scope} {n : Nat} {x : Str} (h : sc.names.lookup x = some .cell) : ∃ c, (cellsFrom n sc.names []).lookup x = some c := by
  have q := PySem.W.cellsFrom_some sc.names n [] (.inl h)
  exact Option.isSome_iff_exists.mp q

theorem inv_start {CX : CXT} {P : Program} {w : World} {K : PySem.W.Frag} {mg : Str → Option Value} {base : Heap} {N ps : List Str} {qual : Str} {scope : Scope} {f : Addr} {cd : Value} {A : Around} {outer : List Env} {s s1 : Shared} {H : Hp} {E : XK} {us : List Value} {vs : List V}
    (S : FnScope N ps scope) (hd : A.handled = none) (e0 : Env0 P w K mg base A outer s H) (hl : vs.length = ps.length) (r : Vals vs us)
    (x : InCallC s s.heap.objs.size (bindL (envOfC qual scope s.heap.objs.size f cd).kindOf (ps.zip us) fun _ => none) (cellsFrom (s.heap.objs.size + 1) scope.names []) (bindC (envOfC qual scope s.heap.objs.size f cd).kindOf (ps.zip us) fun _ => none) s1) :
    Inv (cxOf CX P w K mg base N qual scope f cd A outer s H E) [] (start N vs) H s1 := by
  have hpl : ps.length ≤ N.length := by have := congrArg List.length S.pre; rw [List.length_take] at this; omega
  obtain ⟨h1, tk, rfl, hk⟩ := x.done
  have noA : ∀ b : Addr, b ∉ (cxOf CX P w K mg base N qual scope f cd A outer s H E).ex := fun b z => absurd (show b ∈ ([] : List Addr) from z) (by simp)
  refine ⟨⟨e0.mod, S.kind, rfl, rfl, Nat.le_refl _, fun y z c h1 h2 => ?_, fun y hy => ?_, fun y c _ h => ?_, fun _ => hd, Around.frames_deeper e0.frames, .inr ⟨rfl, rfl⟩, fun b z => absurd z (noA b), e0.bs, e0.bsz, fun b _ _ => noA b, fun b z => absurd z (noA b), e0.funs, e0.frf⟩,
    rfl, e0.bare, Un.kept hk, ⟨_, x.toInCall.ns, fun i y v h1 h2 h3 => ?_⟩, fun y c h => ⟨_, x.cell y c h⟩, e0.hok.fresh (Nat.le_refl _), fun y c h => ?_, fun p hp => absurd (show p ∈ ([] : List (Addr × Obj)) from hp) (by simp), e0.hok.kept hk, ?_⟩
  · exact name_of_addr x.apart (PySem.mem_of_lookup h1) (PySem.mem_of_lookup h2)
  · have hy : scope.names.lookup y = some .cell ∨ scope.names.lookup y = some .free := hy
    rcases hy with hy | hy
    · exact cell_has hy
    · exact absurd rfl (S.nofree _ (PySem.mem_of_lookup hy))
  · exact Nat.le_of_lt (x.above y c (PySem.mem_of_lookup h))
  · have hi : i < vs.length := by
      unfold start at h2
      by_cases hi : i < vs.length
      · exact hi
      · rw [List.getElem?_append_right (by simpa using hi)] at h2
        rw [List.getElem?_replicate] at h2
        split at h2 <;> cases h2
    have ha : vs[i]? = some v := by
      unfold start at h2
      rw [List.getElem?_append_left (by simpa using hi), List.getElem?_map] at h2
      cases e : vs[i]? with
      | none => rw [e] at h2; cases h2
      | some a => rw [e] at h2; cases h2; rfl
    obtain ⟨u, hu, rv⟩ := r.get ha
    have hp : ps[i]? = some y := by
      rw [← S.pre, List.getElem?_take_of_lt (by omega)]; exact h1
    have ndP : ps.Nodup := by rw [← S.pre]; exact S.nd.sublist (List.take_sublist _ _)
    refine ⟨u, rv, ?_⟩
    rcases S.par y (List.mem_of_getElem? hp) with k | k
    · exact .inl ⟨k, bindL_get ndP hp hu k⟩
    · obtain ⟨c, e⟩ := cell_has (n := s.heap.objs.size + 1) k
      refine .inr ⟨.inl k, c, e, ?_⟩
      have q := x.cell y c e
      rw [bindC_get ndP hp hu (by show scope.names.lookup y ≠ _; rw [k]; decide)] at q
      exact q
  · exact e0.hok.fresh (Nat.le_of_lt (x.above y c (PySem.mem_of_lookup h)))
  · unfold start
    show _ = N.length
    rw [List.length_append, List.length_map, List.length_replicate]
    omega

/-- THE RULE: a def (or a method) of the text, by its body. The body's reading t is chosen for each entry; it is run at the parameters' values -/
theorem fn_of {CX : CXT} {P : Program} {w : World} {K : PySem.W.Frag} {mg : Str → Option Value} {base : Heap} {k : Nat} {f : Addr} {name qual : Str} {params : Arguments} {body : List Stmt} {scope : Scope} {dV kV doc pm cdv ct oc : Value} {an od : Option Addr}
    {osl : Array (Option Value)} {N ps : List Str} {sp : Sp} (lk : K.lookup f = some ⟨oc, od, .func (PySem.W.fnOf name qual params body scope dV kV doc pm an cdv ct), osl⟩) (hcd : PySem.W.codeIn K cdv qual = true) (S : FnScope N ps scope)
    (len : ∀ vs H Q E, sp vs H Q E → vs.length = ps.length)
    (hbody : ∀ (A : Around) (outer : List Env) (s : Shared) (H : Hp) (vs : List V) (Q : VK) (E : XK), Room k (A.deeper (envOfC qual scope s.heap.objs.size f cdv)) → sp vs H Q E →
      ∃ t, PSs (cxOf CX P w K mg base N qual scope f cdv A outer s H E) body t ∧ t { nx := fun _ H' => Q .non H', rt := Q } (start N vs) H) :
    FnOk P w K mg base CX (k + 1) f (PySem.W.fnOf name qual params body scope dV kV doc pm an cdv ct) ps sp := by
  refine ⟨len, fun A outer s H args us vs Q E hr e0 hb r hsp => ?_⟩
  have hl := len _ _ _ _ hsp
  have KX : K.In s.heap := e0.mod.kin.keeps fun b o e => (e0.bs b o e).1
  have lim : s.heap.NoLimit := e0.mod.nolimit.keeps fun b o e => (e0.bs b o e).1
  have hkind : ∀ y ∈ ps.zip us, scope.names.lookup y.1 = some .local ∨ (scope.names.lookup y.1 = some .cell ∧ ((cellsFrom (s.heap.objs.size + 1) scope.names []).lookup y.1).isSome = true) := fun ⟨n, v⟩ hy => by
    rcases S.par n (List.of_mem_zip hy).1 with q | q
    · exact .inl q
    · exact .inr ⟨q, PySem.W.cellsFrom_some _ _ _ (.inl q)⟩
  refine codeAny_call_function hr.depth (KX _ _ lk) rfl S.co S.gen rfl (PySem.W.codeRec_of KX hcd) (hb _ _ _ _ ?_)
  refine wpAny_newFunctionEnv_cells S.kind hkind fun env he s1 x => ?_
  subst he
  refine ⟨lim.keeps x.toInCall.keep, codeAny_func ?_⟩
  obtain ⟨t, ht, hq⟩ := hbody A outer s H vs Q E (hr.deeper _) hsp
  have I : Inv (cxOf CX P w K mg base N qual scope f cdv A outer s H E) [] (start N vs) H s1 := inv_start S hr.hd e0 hl r x
  refine wpAny_mono (ht [] s1 (start N vs) H _ I hq) (fun fl s' hs => ?_) fun e s' hs => hs
  have fin : ∀ {σ' : St} {H' : Hp} {v : V} {u : Value}, Inv (cxOf CX P w K mg base N qual scope f cdv A outer s H E) [] σ' H' s' → RelV v u → Q v H' → CE outer P w H s Q u s' :=
    fun {σ' H' v u} J rv q => ⟨v, H', J.os, J.bare, J.base, J.hok, rv, q⟩
  cases fl with
  | ret u =>
    obtain ⟨v, σ', H', J, rv, q⟩ := hs
    exact fin J rv q
  | next =>
    obtain ⟨σ', H', J, q⟩ := hs
    exact fin (v := V.non) (u := Value.none) J rfl q
  | brk =>
    obtain ⟨_, _, _, q⟩ := hs
    exact False.elim q
  | cont =>
    obtain ⟨_, _, _, q⟩ := hs
    exact False.elim q
end L2

namespace L2
open PySem PySem.Spec PyProof.Rows
section
variable {X : Cx} {x : Str} {p pos : Pos} {e : Expr} {es : List Expr} {t : TA} {id T : String} {r : List V → Hp → VK → Prop}

def tCB (r : List V → Hp → VK → Prop) (t : TA) : TE := fun σ H Q => t σ H fun vs H1 => r vs H1 Q
/-- f(e, ..), f a built-in function -/
theorem pe_callB (hc : CallR X (.builtin id) r) (hg : Gl X x) (hm : X.mg x = none) (hv : bootBuiltins x = some (.builtin id)) (ha : PA X (e :: es) t) (hn : x ≠ "__name__" := by decide) (hdb : (x == ("__debug__" : Str)) = false := by decide)
    (he : starEach (e :: es) X.env = (false, eval e X.env) :: starEach es X.env := by rfl) (hpl : (backTo pos (starEach es X.env)).any (·.1) = false := by rfl) : PE X (.Call (.Name x p) (e :: es) [] pos) (tCB r t) := by
  intro pins s σ H Q I h
  refine wpAny_Call_Name_kw (ld_blt I hg hm hv ?_ hn hdb)
  exact PyProof.Rows.callWith_builtin1 (thn (ha pos pins s σ H _ I h) fun us s1 ⟨vs, H1, I1, r1, q1⟩ => hc pins s1 σ H1 vs us Q I1 r1 q1) he hpl
/-- T(e, ..), T a built-in type -/
theorem pe_callTy (hc : CallR X (.type T) r) (hg : Gl X x) (hm : X.mg x = none) (hv : bootBuiltins x = some (.type T)) (ha : PA X (e :: es) t) (hn : x ≠ "__name__" := by decide) (hdb : (x == ("__debug__" : Str)) = false := by decide)
    (he : starEach (e :: es) X.env = (false, eval e X.env) :: starEach es X.env := by rfl) (hpl : (backTo pos (starEach es X.env)).any (·.1) = false := by rfl) : PE X (.Call (.Name x p) (e :: es) [] pos) (tCB r t) := by
  intro pins s σ H Q I h
  refine wpAny_Call_Name_kw (ld_blt I hg hm hv ?_ hn hdb)
  exact PyProof.Rows.callWith_type1 (thn (ha pos pins s σ H _ I h) fun us s1 ⟨vs, H1, I1, r1, q1⟩ => hc pins s1 σ H1 vs us Q I1 r1 q1) he hpl
end
end L2

namespace HT
open PySem PyProof.Rows

section
open PySem.SeqAt
open PySem.AutoSeq1 (wpAny_loadPart')
open PySem.MeetsSeq PySem.MeetsSeq2 PySem.MeetsSeq3

end

section
variable {prog : Program} {w : World} {A : Around} {E : Value → Shared → Prop} {s : Shared}

/-! ### t[a:b], not the whole -/
end
end HT

namespace L2
open PySem PySem.Spec PyProof.Rows

/-! ### the parts of a slice -/
theorem intsAre_of {ns : List Int} : ∀ {us : List Value}, Vals (ns.map V.int) us → IntsAre us ns := by
  induction ns with
  | nil => intro us r; rw [List.map_nil] at r; cases r; exact .nil
  | cons n ns ih =>
    intro us r
    rw [List.map_cons] at r
    cases r with
    | cons r1 r2 =>
      obtain ⟨t, e⟩ := r1
      subst e
      exact .cons n t (ih r2)

section
variable {X : Cx} {e : Expr} {te : TE} {lo hi : Option Expr} {tl th : TO} {pos p2 : Pos}

/-- what a slice of a value is, by values: the slice object stands at sl -/
def SlR (X : Cx) (r : V → Option Int → Option Int → Hp → VK → Prop) : Prop :=
  ∀ (pins : List (Addr × Obj)) (s : Shared) (σ : St) (H : Hp) (x : V) (v vl vu : Value) (lo hi : Option Int) (sl : Addr) (Q : VK), Inv X pins σ H s → RelV x v → s.heap.IsSliceOf sl vl vu .none → IsPart vl lo → IsPart vu hi → r x lo hi H Q →
    ∃ T id, typeLookup (.type T) "__getitem__" = pure (some (.builtin id)) ∧ s.TypeIs v T ∧ wpAny (model X.prog X.w) X.A (getItem v (.ref sl)) (EP X pins σ Q) X.xe s
theorem SlR.or {r r' : V → Option Int → Option Int → Hp → VK → Prop} (h : SlR X r) (h' : SlR X r') : SlR X (fun x lo hi H Q => r x lo hi H Q ∨ r' x lo hi H Q) := by
  intro pins s σ H x v vl vu lo hi sl Q I rx hs pl pu q
  rcases q with q | q
  · exact h pins s σ H x v vl vu lo hi sl Q I rx hs pl pu q
  · exact h' pins s σ H x v vl vu lo hi sl Q I rx hs pl pu q
/-! ### t < u, t + u -/
end
end L2

namespace L2
open PySem PySem.Spec PyProof.Rows

/-! ### places -/
/-- the place that an index of any sign means -/
def ixN (n : Nat) (i : Int) : Option Nat := if 0 ≤ i then (if i < n then some i.toNat else none) else if -(n : Int) ≤ i then some (i + n).toNat else none
def atI {α : Type} (xs : List α) (i : Int) : Option α := (ixN xs.length i).bind fun j => xs[j]?
theorem ixN_seq {n : Nat} {i : Int} {j : Nat} (h : ixN n i = some j) : seqIndex? i n = some j ∧ j < n ∧ -(n : Int) ≤ i ∧ i < n := by
  unfold ixN at h
  by_cases h0 : 0 ≤ i
  · rw [if_pos h0] at h
    by_cases h1 : i < n
    · rw [if_pos h1] at h
      have e : i.toNat = j := Option.some.inj h
      exact ⟨by rw [seqIndex_of h0 h1, e], by omega, by omega, h1⟩
    · rw [if_neg h1] at h; cases h
  · rw [if_neg h0] at h
    by_cases h1 : -(n : Int) ≤ i
    · rw [if_pos h1] at h
      have e : (i + n).toNat = j := Option.some.inj h
      exact ⟨by rw [seqIndex_neg (by omega) h1, e], by omega, h1, by omega⟩
    · rw [if_neg h1] at h; cases h
theorem atI_get {α : Type} {xs : List α} {i : Int} {v : α} (h : atI xs i = some v) : ∃ j, seqIndex? i xs.length = some j ∧ xs[j]? = some v ∧ j < xs.length ∧ -(xs.length : Int) ≤ i ∧ i < xs.length := by
  unfold atI at h
  cases e : ixN xs.length i with
  | none => rw [e] at h; cases h
  | some j =>
    rw [e] at h
    obtain ⟨h1, h2, h3, h4⟩ := ixN_seq e
    exact ⟨j, h1, h, h2, h3, h4⟩
theorem atI_nat {α : Type} {xs : List α} {j : Nat} {v : α} (h : xs[j]? = some v) : atI xs (j : Int) = some v := by
  have hj : j < xs.length := (List.getElem?_eq_some_iff.mp h).1
  have e : ixN xs.length (j : Int) = some j := by
    unfold ixN
    rw [if_pos (by omega), if_pos (by omega)]; simp
  unfold atI; rw [e]; exact h
/-! ### what may be subscripted -/
/-- what stands as an index of a plain subscript -/
def PlainIx (b : Expr) : Prop := ∀ o i, subscripted b false o i = operate [o, i] (getItem o i)
/-- a subscript by values -/
def IxR (X : Cx) (r : R2) : Prop :=
  ∀ (value slice : Expr) (pins : List (Addr × Obj)) (s : Shared) (σ : St) (H : Hp) (x y : V) (v u : Value) (Q : VK), Inv X pins σ H s → RelV x v → RelV y u → r x y H Q →
    subscripted slice false v u = operate [v, u] (getItem v u) → wpAny (model X.prog X.w) X.A (subscriptTail value slice v u) (EP X pins σ Q) X.xe s
/-- a call of a builtin's method by values: the receiver, the arguments -/
def MtR (X : Cx) (id : String) (r : V → List V → Hp → VK → Prop) : Prop :=
  ∀ (pins : List (Addr × Obj)) (s : Shared) (σ : St) (H : Hp) (x : V) (xs : List V) (v : Value) (us : List Value) (Q : VK), Inv X pins σ H s → RelV x v → Vals xs us → r x xs H Q →
    wpAny (model X.prog X.w) X.A (call (.builtin id) (v :: us)) (EP X pins σ Q) X.xe s
section
variable {X : Cx} {a b : Expr} {ta tb : TE} {pos : Pos}
theorem IxR.or {r r' : R2} (h : IxR X r) (h' : IxR X r') : IxR X (fun x y H Q => r x y H Q ∨ r' x y H Q) := by
  intro value slice pins s σ H x y v u Q I rx ry q hs
  rcases q with q | q
  · exact h value slice pins s σ H x y v u Q I rx ry q hs
  · exact h' value slice pins s σ H x y v u Q I rx ry q hs
theorem MtR.or {id : String} {r r' : V → List V → Hp → VK → Prop} (h : MtR X id r) (h' : MtR X id r') : MtR X id (fun x xs H Q => r x xs H Q ∨ r' x xs H Q) := by
  intro pins s σ H x xs v us Q I rx rs q
  rcases q with q | q
  · exact h pins s σ H x xs v us Q I rx rs q
  · exact h' pins s σ H x xs v us Q I rx rs q
/-- a[b] -/
theorem pe_ix {r : R2} (hr : IxR X r) (ha : PE X a ta) (hb : PE X b tb) (hs : PlainIx b) : PE X (.Subscript a b pos) (tOp r ta tb) := by
  intro pins s σ H Q I h
  exact Subscript_ (binT ha hb I h fun v u s2 x y H2 I2 rx ry q => hr a b pins s2 σ H2 x y v u Q I2 rx ry q (hs _ _))

def rIxL (K : PySem.W.Frag) : R2 := fun x y H Q => ∃ p xs i v, x = .ref p ∧ y = .int i ∧ SqL K H p xs ∧ atI xs i = some v ∧ Q v H
def rIxT (K : PySem.W.Frag) : R2 := fun x y H Q => ∃ p xs i v, x = .ref p ∧ y = .int i ∧ SqT K H p xs ∧ atI xs i = some v ∧ Q v H
theorem ix_list : IxR X (rIxL X.K) := by
  intro value slice pins s σ H x y v u Q I rx ry h hs
  obtain ⟨p, xs, i, z, rfl, rfl, hq, he, q⟩ := h
  cases rx
  obtain ⟨t, rfl⟩ := ry
  obtain ⟨its, r, pl, hz⟩ := I.list hq
  obtain ⟨j, h1, h2, h3, h4, h5⟩ := atI_get he
  obtain ⟨w, ew, rw'⟩ := r.get h2
  have hl := r.length
  have hn := line63
  have fin : EP X pins σ Q w s := ⟨z, H, I, rw', q⟩
  by_cases h0 : 0 ≤ i
  · have hj : i.toNat = j := by
      rw [seqIndex_of h0 h5] at h1
      exact Option.some.inj h1
    exact item_listR pl.isList h0 (by omega) (by rw [hj]; simpa using ew) fin hs
  · have hj : (i + (its.toArray.size : Int)).toNat = j := by
      rw [seqIndex_neg (by omega) h4] at h1
      rw [List.size_toArray, ← hl]
      exact Option.some.inj h1
    exact subscriptTail_builtinR (x := w) pl.isList.typeIs slot_list_getitem.lookup
      (wpAny_getItem_list_neg (Q := fun r s' => r = w ∧ EP X pins σ Q r s') pl.isList (by omega) (by rw [List.size_toArray] <;> omega) (by omega) (by rw [hj]; simpa using ew) ⟨rfl, fin⟩) hs
theorem ix_tup : IxR X (rIxT X.K) := by
  intro value slice pins s σ H x y v u Q I rx ry h hs
  obtain ⟨p, xs, i, z, rfl, rfl, hq, he, q⟩ := h
  cases rx
  obtain ⟨t, rfl⟩ := ry
  obtain ⟨its, r, pl, hz⟩ := I.tuple hq
  obtain ⟨j, h1, h2, h3, h4, h5⟩ := atI_get he
  obtain ⟨w, ew, rw'⟩ := r.get h2
  have hl := r.length
  have hn := line63
  have fin : EP X pins σ Q w s := ⟨z, H, I, rw', q⟩
  exact subscriptTail_builtinR (x := w) pl.typeIs slot_tuple_getitem.lookup
    (getItem_tuple (j := j) (Q := fun r s' => r = w ∧ EP X pins σ Q r s') pl (by omega) (by omega) (by rw [List.size_toArray, ← hl]; exact h1) (by simpa using ew) ⟨rfl, fin⟩) hs
/-! ### xs[i] = v, any sign -/
/-- the list's object behind a store -/
theorem mapSeq_set (its : List Value) (n j : Nat) (u : Value) : Obj.mapSeq (·.setIfInBounds j u) { cls := .type "list", data := .seq its.toArray n } = { cls := .type "list", data := .seq (its.set j u).toArray n } := by
  simp [Obj.mapSeq]
theorem Inv.lst {pins : List (Addr × Obj)} {σ : St} {H : Hp} {s : Shared} {p : Addr} {xs : List V} (I : Inv X pins σ H s) (h : H p = some (.lst xs)) :
    ∃ (its : List Value) (n : Nat), Vals xs its ∧ s.heap.get? p = some { cls := .type "list", data := .seq its.toArray n } ∧ xs.length ≤ sizeLine := by
  obtain ⟨z, its, n, r, e⟩ := I.hok p _ h
  exact ⟨its, n, r, e, z⟩
/-- the list at p is written by an update of its object -/
theorem Inv.lstUpd {pins : List (Addr × Obj)} {σ : St} {H : Hp} {s : Shared} {p : Addr} {xs ys : List V} {its its' : List Value} {n n' : Nat} {f : Obj → Obj} (I : Inv X pins σ H s) (h : H p = some (.lst xs))
    (ho : s.heap.get? p = some { cls := .type "list", data := .seq its.toArray n }) (hf : f { cls := .type "list", data := .seq its.toArray n } = { cls := .type "list", data := .seq its'.toArray n' }) (r : Vals ys its') (hz : ys.length ≤ sizeLine) (t : Nat) :
    Inv X pins σ (upd H p (.lst ys)) { s with heap := s.heap.update p f, toks := t } := by
  have e : (s.heap.update p f).get? p = some { cls := .type "list", data := .seq its'.toArray n' } := by
    rw [Heap.get?_update_self f ho (by rw [hf] <;> rfl), hf]
  refine I.write (x := p) (e := p) (by rw [h]; trivial) (.inl rfl) (fun b u hb q => (Heap.get?_update_other _ _ (Ne.symm hb)).trans q) ⟨_, e⟩ ?_
  exact ⟨hz, its', n', r, e⟩
def rSetL : V → V → V → Hp → (Hp → Prop) → Prop := fun o i v H Q => ∃ p xs k j, o = .ref p ∧ i = .int k ∧ H p = some (.lst xs) ∧ ixN xs.length k = some j ∧ Q (upd H p (.lst (xs.set j v)))
theorem set_list : PSet X rSetL := by
  intro pins s σ H o i v ov iv u Q I ro ri rv h
  obtain ⟨p, xs, k, j, rfl, rfl, hp, hj, q⟩ := h
  cases ro
  obtain ⟨t, rfl⟩ := ri
  obtain ⟨its, n, r, ho, hz⟩ := I.lst hp
  obtain ⟨h1, h2, h3, h4⟩ := ixN_seq hj
  have hl := r.length
  have hn := line63
  have I' : Inv X pins σ (upd H p (.lst (xs.set j v))) { s with heap := s.heap.update p (Obj.mapSeq (·.setIfInBounds j u)) } :=
    I.lstUpd hp ho (mapSeq_set its n j u) (r.set rv j) (by rw [List.length_set]; exact hz) s.toks
  by_cases h0 : 0 ≤ k
  · have hk : k.toNat = j := by
      rw [seqIndex_of h0 h4] at h1
      exact Option.some.inj h1
    exact PySem.W.ki_setAt ho h0 (by omega) (by rw [List.size_toArray, ← hl]; exact h4) (by rw [hk]; exact ⟨_, I', q⟩)
  · have hk : (k + (its.toArray.size : Int)).toNat = j := by
      rw [seqIndex_neg (by omega) h3] at h1
      rw [List.size_toArray, ← hl]
      exact Option.some.inj h1
    exact PySem.W.ki_setBack ho (by omega) (by rw [List.size_toArray, ← hl]; exact h3) (by omega) (by rw [hk]; exact ⟨_, I', q⟩)

/-! ### slices -/
/-! ### in, not in: flat items -/
def flatV : V → Bool
  | .non => true
  | .bl _ => true
  | .int _ => true
  | .str _ => true
  | _ => false
/-- == of flat values -/
def eqV : V → V → Bool
  | .non, .non => true
  | .bl a, .bl b => a == b
  | .bl a, .int b => (if a then 1 else 0) == b
  | .int a, .bl b => a == (if b then 1 else 0)
  | .int a, .int b => a == b
  | .str a, .str b => a == b
  | _, _ => false
theorem eqAt_V {A : Around} {s : Shared} {y x : V} {u v : Value} (ry : RelV y u) (rx : RelV x v) (fy : flatV y = true) (fx : flatV x = true) : SeqAt.EqAt A s u v (eqV y x) := by
  cases y with
  | non =>
    cases ry
    cases x with
    | non => cases rx; exact SeqAt.EqAt.same _
    | bl b => cases rx; exact SeqAt.EqAt.none_bool b
    | int b => obtain ⟨t, rfl⟩ := rx; exact SeqAt.EqAt.none_int b t
    | str b => obtain ⟨t, rfl⟩ := rx; exact SeqAt.EqAt.none_str b t
    | _ => exact absurd (show false = true from fx) Bool.false_ne_true
  | bl a =>
    cases ry
    cases x with
    | non => cases rx; exact SeqAt.EqAt.bool_none a
    | bl b => cases rx; exact SeqAt.EqAt.bool_bool a b
    | int b => obtain ⟨t, rfl⟩ := rx; exact SeqAt.EqAt.bool_int a b t
    | str b => obtain ⟨t, rfl⟩ := rx; exact SeqAt.EqAt.bool_str a b t
    | _ => exact absurd (show false = true from fx) Bool.false_ne_true
  | int a =>
    obtain ⟨t', rfl⟩ := ry
    cases x with
    | non => cases rx; exact SeqAt.EqAt.int_none a t'
    | bl b => cases rx; exact SeqAt.EqAt.int_bool a t' b
    | int b => obtain ⟨t, rfl⟩ := rx; exact SeqAt.EqAt.int_int a t' b t
    | str b => obtain ⟨t, rfl⟩ := rx; exact SeqAt.EqAt.int_str a t' b t
    | _ => exact absurd (show false = true from fx) Bool.false_ne_true
  | str a =>
    obtain ⟨t', rfl⟩ := ry
    cases x with
    | non => cases rx; exact SeqAt.EqAt.str_none a t'
    | bl b => cases rx; exact SeqAt.EqAt.str_bool a t' b
    | int b => obtain ⟨t, rfl⟩ := rx; exact SeqAt.EqAt.str_int a t' b t
    | str b => obtain ⟨t, rfl⟩ := rx; exact SeqAt.EqAt.str_str a t' b t
    | _ => exact absurd (show false = true from fx) Bool.false_ne_true
  | _ => exact absurd (show false = true from fy) Bool.false_ne_true
/-- the items' answers, read off the values (a value's own answer does not lean on its token) -/
def eqU (x : V) (u : Value) : Bool := match u with
  | .none => eqV .non x
  | .bool b => eqV (.bl b) x
  | .int i _ => eqV (.int i) x
  | .str z _ => eqV (.str z) x
  | _ => false
theorem eqU_of {x y : V} {u : Value} (r : RelV y u) (f : flatV y = true) : eqU x u = eqV y x := by
  cases y with
  | non => cases r; rfl
  | bl b => cases r; rfl
  | int i => obtain ⟨t, rfl⟩ := r; rfl
  | str z => obtain ⟨t, rfl⟩ := r; rfl
  | _ => exact absurd (show false = true from f) Bool.false_ne_true
theorem any_eqU {x : V} : ∀ {xs : List V} {us : List Value}, Vals xs us → xs.all flatV = true → us.any (eqU x) = xs.any fun y => eqV y x
  | _, _, .nil, _ => rfl
  | y :: xs, u :: us, .cons r t, f => by
    rw [List.all_cons, Bool.and_eq_true] at f
    rw [List.any_cons, List.any_cons, eqU_of r f.1, any_eqU t f.2]
theorem mem_eqAt {A : Around} {s : Shared} {x : V} {v : Value} (rx : RelV x v) (fx : flatV x = true) : ∀ {xs : List V} {us : List Value}, Vals xs us → xs.all flatV = true → ∀ u ∈ us, SeqAt.EqAt A s u v (eqU x u)
  | _, _, .nil, _ => fun u hu => by cases hu
  | y :: xs, u :: us, .cons r t, f => fun u' hu => by
    rw [List.all_cons, Bool.and_eq_true] at f
    rcases List.mem_cons.mp hu with rfl | hu
    · rw [eqU_of r f.1]; exact eqAt_V r rx f.1 fx
    · exact mem_eqAt rx fx t f.2 u' hu
def inV (x : V) (xs : List V) : Bool := xs.any fun y => eqV y x
/-- x in a list or tuple of flat items -/
def rIn (K : PySem.W.Frag) (neg : Bool) : R2 := fun x y H Q => ∃ p xs, y = .ref p ∧ (SqL K H p xs ∨ SqT K H p xs) ∧ flatV x = true ∧ xs.all flatV = true ∧ Q (.bl (if neg then !inV x xs else inV x xs)) H
theorem op_in_seq : OpR X (compareOp .In) (rIn X.K false) := by
  intro pins s σ H x y v u Q I rx ry h
  obtain ⟨p, xs, rfl, hq, fx, fs, q⟩ := h
  cases ry
  rcases hq with hq | hq
  · obtain ⟨its, r, pl, hz⟩ := I.list hq
    refine SeqAt.in_listAt (eqU x) pl.isList (fun w hw => mem_eqAt rx fx r fs w (by simpa using hw)) ⟨.bl _, H, I, rfl, ?_⟩
    rw [show its.toArray.any (eqU x) = its.any (eqU x) by simp, any_eqU r fs]
    exact q
  · obtain ⟨its, r, pl, hz⟩ := I.tuple hq
    refine SeqAt.in_tupleAt (eqU x) pl (fun w hw => mem_eqAt rx fx r fs w (by simpa using hw)) ⟨.bl _, H, I, rfl, ?_⟩
    rw [show its.toArray.any (eqU x) = its.any (eqU x) by simp, any_eqU r fs]
    exact q
theorem op_notIn_seq : OpR X (compareOp .NotIn) (rIn X.K true) := by
  intro pins s σ H x y v u Q I rx ry h
  obtain ⟨p, xs, rfl, hq, fx, fs, q⟩ := h
  cases ry
  rcases hq with hq | hq
  · obtain ⟨its, r, pl, hz⟩ := I.list hq
    refine SeqAt.notIn_listAt (eqU x) pl.isList (fun w hw => mem_eqAt rx fx r fs w (by simpa using hw)) ⟨.bl _, H, I, rfl, ?_⟩
    rw [show its.toArray.any (eqU x) = its.any (eqU x) by simp, any_eqU r fs]
    exact q
  · obtain ⟨its, r, pl, hz⟩ := I.tuple hq
    refine SeqAt.notIn_tupleAt (eqU x) pl (fun w hw => mem_eqAt rx fx r fs w (by simpa using hw)) ⟨.bl _, H, I, rfl, ?_⟩
    rw [show its.toArray.any (eqU x) = its.any (eqU x) by simp, any_eqU r fs]
    exact q
/-! ### len, list(x), tuple(x) of any list or tuple that is read -/
theorem call_len_seq : CallR X (.builtin "len") (fun xs H Q => ∃ p ys, xs = [.ref p] ∧ (SqL X.K H p ys ∨ SqT X.K H p ys) ∧ Q (.int ys.length) H) := by
  intro pins s σ H xs us Q I r h
  obtain ⟨p, ys, rfl, hq, q⟩ := h
  obtain ⟨u, rfl, rx⟩ := vals1 r
  cases rx
  have hn := line63
  rcases hq with hq | hq
  · obtain ⟨its, r', pl, hz⟩ := I.list hq
    have hlen := r'.length
    exact Calls.call_len_list pl.isList (by simp only [List.size_toArray] <;> omega) ⟨.int ys.length, H, I.tok _, ⟨s.toks + 1, by rw [List.size_toArray, hlen]⟩, q⟩
  · obtain ⟨its, r', pl, hz⟩ := I.tuple hq
    have hlen := r'.length
    exact len_tuple pl (by simp only [List.size_toArray] <;> omega) ⟨.int ys.length, H, I.tok _, ⟨s.toks + 1, by rw [List.size_toArray, hlen]⟩, q⟩
theorem CallR.or {f : Value} {r r' : List V → Hp → VK → Prop} (h : CallR X f r) (h' : CallR X f r') : CallR X f (fun xs H Q => r xs H Q ∨ r' xs H Q) := by
  intro pins s σ H xs us Q I rs q
  rcases q with q | q
  · exact h pins s σ H xs us Q I rs q
  · exact h' pins s σ H xs us Q I rs q
theorem call_list_of : CallR X (.type "list") (fun xs H Q => ∃ p ys, xs = [.ref p] ∧ (SqL X.K H p ys ∨ SqT X.K H p ys) ∧ ∀ l, H l = none → Q (.ref l) (upd H l (.lst ys))) := by
  intro pins s σ H xs us Q I r h
  obtain ⟨p, ys, rfl, hq, q⟩ := h
  obtain ⟨u, rfl, rx⟩ := vals1 r
  cases rx
  have fin : ∀ (its : List Value), Vals ys its → ys.length ≤ sizeLine → ∀ (h' : Heap) (c' : Nat), (∀ b o', s.heap.get? b = some o' → h'.get? b = some o') →
      h'.get? s.heap.objs.size = some { cls := .type "list", dict := none, data := .seq its.toArray c', slots := #[] } → EP X pins σ Q (.ref s.heap.objs.size) { s with heap := h' } := fun its r' hz h' c' kp e =>
    ⟨.ref s.heap.objs.size, _, I.laid (t' := s.toks) kp (Nat.le_refl _) (show ObjOk X.prog X.w _ h' _ (.lst ys) from ⟨hz, its, c', r', e⟩), rfl, q _ (I.hok.fresh (Nat.le_refl _))⟩
  rcases hq with hq | hq
  · obtain ⟨its, r', pl, hz⟩ := I.list hq
    have hlen := r'.length
    obtain ⟨o, ho, hc, n, hd⟩ := pl.isList
    exact call_list_seq p (.inl rfl) ho hc hd (fun h' c' kp e => fin its r' hz h' c' kp e) (by simp only [List.size_toArray] <;> omega)
  · obtain ⟨its, r', pl, hz⟩ := I.tuple hq
    have hlen := r'.length
    obtain ⟨o, ho, hc, n, hd⟩ := pl
    exact call_list_seq p (.inr rfl) ho hc hd (fun h' c' kp e => fin its r' hz h' c' kp e) (by simp only [List.size_toArray] <;> omega)
theorem call_tuple_of : CallR X (.type "tuple") (fun xs H Q => ∃ p ys, xs = [.ref p] ∧ ((SqL X.K H p ys ∧ ∀ l, H l = none → Q (.ref l) (upd H l (.tup ys))) ∨ (SqT X.K H p ys ∧ Q (.ref p) H))) := by
  intro pins s σ H xs us Q I r h
  obtain ⟨p, ys, rfl, h⟩ := h
  obtain ⟨u, rfl, rx⟩ := vals1 r
  cases rx
  rcases h with ⟨hq, q⟩ | ⟨hq, q⟩
  · obtain ⟨its, r', pl, hz⟩ := I.list hq
    have hlen := r'.length
    refine call_tuple_list pl.isList (fun h' kp => ?_) (by simp only [List.size_toArray] <;> omega)
    have I1 : Inv X pins σ H { s with heap := h' } := I.kept (t' := s.toks) kp
    have I2 : Inv X pins σ (upd H h'.objs.size (.tup ys)) { s with heap := h'.push { cls := .type "tuple", data := .seq its.toArray } } :=
      I1.laid (t' := s.toks) (fun b o e => Heap.get?_push_of_some _ e) (Nat.le_refl _) (show ObjOk X.prog X.w _ _ _ (.tup ys) from ⟨hz, its, r', IsTup.new _ _⟩)
    exact ⟨.ref h'.objs.size, _, I2, rfl, q _ (I1.hok.fresh (Nat.le_refl _))⟩
  · obtain ⟨its, r', pl, hz⟩ := I.tuple hq
    exact call_tuple_same pl ⟨.ref p, H, I, rfl, q⟩

/-! ### the call of a builtin's method: o.m(..) -/
/-- the value is of that builtin type -/
def tyV (K : PySem.W.Frag) (T : String) (x : V) (H : Hp) : Prop := match x with
  | .str _ => T = "str"
  | .int _ => T = "int"
  | .ref p => (T = "list" ∧ ∃ xs, SqL K H p xs) ∨ (T = "tuple" ∧ ∃ o, K.lookup p = some o ∧ o.cls = .type "tuple" ∧ o.dict = none) ∨
      (T = "dict" ∧ ((∃ kvs, H p = some (.dK kvs)) ∨ ∃ kvs, H p = some (.dT kvs))) ∨ (T = "set" ∧ ∃ S n, H p = some (.set S n))
  | _ => False
theorem tyV_is {pins : List (Addr × Obj)} {σ : St} {H : Hp} {s : Shared} {T : String} {x : V} {v : Value} (I : Inv X pins σ H s) (r : RelV x v) (ty : tyV X.K T x H) :
    s.TypeIs v T ∧ ∀ a, v = .ref a → ∃ ob, s.heap.get? a = some ob ∧ ob.dict = none := by
  cases x with
  | str z =>
    obtain ⟨t, rfl⟩ := r
    cases (show T = "str" from ty)
    exact ⟨typeIs_str s z t, fun _ e => nomatch e⟩
  | int i =>
    obtain ⟨t, rfl⟩ := r
    cases (show T = "int" from ty)
    exact ⟨typeIs_int s i t, fun _ e => nomatch e⟩
  | ref p =>
    cases r
    rcases ty with ⟨rfl, xs, hq⟩ | ⟨rfl, o, hk, hc, hd⟩ | ⟨rfl, hk⟩ | ⟨rfl, S, n, hk⟩
    · obtain ⟨its, _, pl, _⟩ := I.list hq
      refine ⟨pl.isList.typeIs, fun a e => ?_⟩
      cases e
      obtain ⟨o, n, e, c, hd, _⟩ := pl
      exact ⟨o, e, hd⟩
    · refine ⟨⟨o, I.kIn p o hk, hc⟩, fun a e => ?_⟩
      cases e
      exact ⟨o, I.kIn _ o hk, hd⟩
    · have z : ∃ o, s.heap.get? p = some o ∧ o.ExactDict := by
        rcases hk with ⟨kvs, hk⟩ | ⟨kvs, hk⟩
        · obtain ⟨_, _, _, _, o, _, _, e, ex, _⟩ := I.hok p _ hk
          exact ⟨o, e, ex⟩
        · obtain ⟨_, _, _, _, o, _, _, e, ex, _⟩ := I.hok p _ hk
          exact ⟨o, e, ex⟩
      obtain ⟨o, e, ex⟩ := z
      refine ⟨⟨o, e, ex.1⟩, fun a e2 => ?_⟩
      cases e2
      exact ⟨o, e, ex.2.1⟩
    · obtain ⟨o, _, _, _, e, ex, _⟩ := I.hok p _ hk
      refine ⟨⟨o, e, ex.1⟩, fun a e2 => ?_⟩
      cases e2
      exact ⟨o, e, ex.2.1⟩
  | _ => exact False.elim ty
def tBM0 (K : PySem.W.Frag) (T : String) (r : V → List V → Hp → VK → Prop) (to : TE) : TE := fun σ H Q => to σ H fun x H1 => tyV K T x H1 ∧ r x [] H1 Q
def tBM (K : PySem.W.Frag) (T : String) (r : V → List V → Hp → VK → Prop) (to : TE) (t : TA) : TE := fun σ H Q => to σ H fun x H1 => tyV K T x H1 ∧ t σ H1 fun xs H2 => r x xs H2 Q
variable {o e : Expr} {es : List Expr} {to : TE} {t : TA} {name : Str} {apos cpos : Pos} {T id : String} {r : V → List V → Hp → VK → Prop}
theorem pe_bm0 (pa : PlainAttrs T) (slot : Slot T name id) (hty : typeOf (.builtin id) = pure (.type "method_descriptor")) (hm : MtR X id r) (ho : PE X o to)
    (hbase : attributeBase o name X.env (eval o X.env) = eval o X.env := by rfl) (hline : (apos.endLine == cpos.line) = true := by rfl) : PE X (.Call (.Attribute o name apos) [] [] cpos) (tBM0 X.K T r to) := by
  intro pins s σ H Q I h
  refine wpAny_Call_method0_late hbase hline (thn (ho pins s σ H _ I h) fun v s1 ⟨x, H1, I1, r1, ty, q1⟩ => ?_)
  obtain ⟨h1, h2⟩ := tyV_is I1 r1 ty
  exact ⟨T, id, pa, slot, hty, h1, h2, Calls.callWith_builtin rfl (PySem.evalArgs_none (hm pins s1 σ H1 x [] v [] Q I1 r1 .nil q1))⟩
theorem pe_bm (pa : PlainAttrs T) (slot : Slot T name id) (hty : typeOf (.builtin id) = pure (.type "method_descriptor")) (hm : MtR X id r) (ho : PE X o to) (ha : PA X (e :: es) t)
    (hbase : attributeBase o name X.env (eval o X.env) = eval o X.env := by rfl)
    (hfew : ((backTo cpos (starEach (e :: es) X.env)).all (fun x => !x.1) && (backToKw cpos (keywordEach [] X.env)).all (fun x => x.1.isSome)
      && decide ((e :: es).length + ([] : List Keyword).length + (if ([] : List Keyword).isEmpty then 0 else 1) < 30)) = true := by rfl)
    (hline : (apos.endLine == cpos.line) = true := by rfl) (hs : starEach (e :: es) X.env = (false, eval e X.env) :: starEach es X.env := by rfl) (hplain : (backTo cpos (starEach es X.env)).any (·.1) = false := by rfl) :
    PE X (.Call (.Attribute o name apos) (e :: es) [] cpos) (tBM X.K T r to t) := by
  intro pins s σ H Q I h
  refine wpAny_Call_method_late hbase hfew hline rfl (thn (ho pins s σ H _ I h) fun v s1 ⟨x, H1, I1, r1, ty, q1⟩ => ?_)
  obtain ⟨h1, h2⟩ := tyV_is I1 r1 ty
  refine ⟨T, id, pa, slot, hty, h1, h2, ?_⟩
  have hA := ha cpos pins s1 σ H1 _ I1 q1
  rw [hs] at hA ⊢
  refine Calls.callWith_builtin (by show (false || (backTo cpos (starEach es X.env)).any (·.1)) = false; rw [hplain] <;> rfl) (Calls.evalArgs_plain ?_)
  exact thn hA fun us s2 ⟨vs, H2, I2, r2, q2⟩ => hm pins s2 σ H2 x vs v us Q I2 r1 r2 q2
/- xs.append(e), list.index on a module's tuple .. are MtR facts of 06m -/
end
end L2

namespace L2
open PySem PySem.Spec PyProof.Rows

def MtM (X : Cx) (id : String) (r : V → List V → Hp → VK → Prop) : Prop :=
  ∀ (pins : List (Addr × Obj)) (s : Shared) (σ : St) (H : Hp) (x : V) (xs : List V) (v : Value) (us : List Value) (Q : VK), Inv X pins σ H s → RelV x v → Vals xs us → r x xs H Q →
    wpAny (model X.prog X.w) X.A (call (.builtin id) (v :: us)) (EP X pins σ Q) X.xe s

/-! ### lists of values -/
theorem Vals.one : ∀ {x : V} {us : List Value}, Vals [x] us → ∃ u, us = [u] ∧ RelV x u
  | _, _, .cons r .nil => ⟨_, rfl, r⟩
theorem Vals.two : ∀ {x y : V} {us : List Value}, Vals [x, y] us → ∃ u v, us = [u, v] ∧ RelV x u ∧ RelV y v
  | _, _, _, .cons r (.cons q .nil) => ⟨_, _, rfl, r, q⟩
theorem Vals.zero : ∀ {us : List Value}, Vals [] us → us = []
  | _, .nil => rfl
theorem Vals.dropLast {xs : List V} {us : List Value} (h : Vals xs us) : Vals xs.dropLast us.dropLast := by
  induction h with
  | nil => exact .nil
  | cons r t ih =>
    cases t with
    | nil => exact .nil
    | cons q t' => exact .cons r ih
theorem Vals.eraseIdx : ∀ {xs : List V} {us : List Value} (i : Nat), Vals xs us → Vals (xs.eraseIdx i) (us.eraseIdx i)
  | _, _, _, .nil => .nil
  | _, _, 0, .cons _ t => t
  | _, _, i + 1, .cons r t => .cons r (Vals.eraseIdx i t)
theorem Vals.reverse {xs : List V} {us : List Value} (h : Vals xs us) : Vals xs.reverse us.reverse := by
  induction h with
  | nil => exact .nil
  | cons r t ih => rw [List.reverse_cons, List.reverse_cons]; exact Vals.append ih (.cons r .nil)
theorem erase_last {α : Type} (l : List α) : l.eraseIdx (l.length - 1) = l.dropLast := by
  induction l with
  | nil => rfl
  | cons a r ih =>
    cases r with
    | nil => rfl
    | cons b r =>
      have e : (a :: b :: r).length - 1 = ((b :: r).length - 1) + 1 := by
        have h1 : (a :: b :: r).length = r.length + 2 := rfl
        have h2 : (b :: r).length = r.length + 1 := rfl
        omega
      rw [e, List.eraseIdx_cons_succ, ih]
      all_goals rfl
theorem len_erase {α : Type} : ∀ (l : List α) (i : Nat), (l.eraseIdx i).length ≤ l.length
  | [], _ => Nat.le_refl _
  | _ :: _, 0 => Nat.le_succ _
  | _ :: r, i + 1 => Nat.succ_le_succ (len_erase r i)
section
variable {X : Cx} {pins : List (Addr × Obj)} {σ : St} {H : Hp} {s : Shared} {l b : Addr} {xs ys zs : List V}

/-! ### the two steps: a tracked list is rewritten, a new list is laid -/
theorem Inv.lset {its its' : List Value} {n : Nat} {f : Array Value → Array Value} {t' : Nat} (I : Inv X pins σ H s) (hH : H l = some (.lst xs))
    (e : s.heap.get? l = some { cls := .type "list", data := .seq its.toArray n }) (hf : f its.toArray = its'.toArray) (hv : Vals ys its') (hz : ys.length ≤ sizeLine) :
    Inv X pins σ (upd H l (.lst ys)) { s with heap := s.heap.update l (Obj.mapSeq f), toks := t' } := by
  have q := PySem.IsL.update e f
  rw [hf] at q
  refine I.write (x := l) (e := l) (by rw [hH]; exact trivial) (.inl rfl) (fun b' u hb hu => (Heap.get?_update_other s.heap (Obj.mapSeq f) (Ne.symm hb)).trans hu) ⟨_, q⟩ ?_
  exact ⟨hz, its', _, hv, q⟩
theorem Inv.lnew {its : List Value} {t' : Nat} (I : Inv X pins σ H s) (hv : Vals ys its) (hz : ys.length ≤ sizeLine) :
    Inv X pins σ (upd H s.heap.objs.size (.lst ys)) { s with heap := s.heap.push { cls := .type "list", data := .seq its.toArray }, toks := t' } :=
  I.laid (fun _ _ q => Heap.get?_push_of_some _ q) (Nat.le_refl _) ⟨hz, its, 0, hv, Heap.get?_push_size _ rfl⟩
theorem Inv.fresh (I : Inv X pins σ H s) : H s.heap.objs.size = none := I.hok.fresh (Nat.le_refl _)
theorem Inv.lstM (I : Inv X pins σ H s) (hH : H l = some (.lst xs)) : xs.length ≤ sizeLine ∧ ∃ (its : List Value) (n : Nat), Vals xs its ∧ xs.length = its.length ∧ s.heap.get? l = some { cls := .type "list", data := .seq its.toArray n } := by
  obtain ⟨z, its, n, r, e⟩ := I.hok l _ hH
  exact ⟨z, its, n, r, r.length, e⟩

end

section
variable {X : Cx}

/-! ### methods -/
def rAppend : V → List V → Hp → VK → Prop := fun x vs H Q => ∃ l xs y, x = .ref l ∧ vs = [y] ∧ H l = some (.lst xs) ∧ xs.length < sizeLine ∧ Q .non (upd H l (.lst (xs ++ [y])))
theorem mt_append : MtM X "list.append" rAppend := by
  intro pins s σ H x vs v us Q I rx rv h
  obtain ⟨l, xs, y, rfl, rfl, hH, hz, q⟩ := h
  cases rx
  obtain ⟨u, rfl, ru⟩ := rv.one
  obtain ⟨z, its, n, r, hl, e⟩ := I.lstM hH
  refine call_meets F.slot_list_append ⟨_, e, rfl⟩ F.entry_list_append (F.args_list_append_2 _ _) (PySem.list_append l its.toArray n u (by rw [List.size_toArray]; omega)) ⟨e, ?_⟩
  refine ⟨.non, _, I.lset (its' := its ++ [u]) hH e (by simp) (r.append (.cons ru .nil)) ?_, rfl, q⟩
  rw [List.length_append, List.length_singleton]
  omega

def rPop : V → List V → Hp → VK → Prop := fun x vs H Q => ∃ l xs y, x = .ref l ∧ vs = [] ∧ H l = some (.lst xs) ∧ xs[xs.length - 1]? = some y ∧ Q y (upd H l (.lst xs.dropLast))
theorem mt_pop : MtM X "list.pop" rPop := by
  intro pins s σ H x vs v us Q I rx rv h
  obtain ⟨l, xs, y, rfl, rfl, hH, hy, q⟩ := h
  cases rx
  have hus := rv.zero
  subst hus
  obtain ⟨z, its, n, r, hl, e⟩ := I.lstM hH
  obtain ⟨u, hu, ru⟩ := r.get hy
  have hy' : its.toArray[its.toArray.size - 1]? = some u := by
    show its.toArray[its.length - 1]? = some u
    rw [← Array.getElem?_toList, ← hl]
    exact hu
  refine call_meets F.slot_list_pop ⟨_, e, rfl⟩ F.entry_list_pop (F.args_list_pop_1 _) (MeetsSeq.list_pop_last l its.toArray n u hy' (by rw [List.size_toArray]; omega)) ⟨e, ?_⟩
  refine ⟨y, _, I.lset (its' := its.dropLast) hH e ?_ r.dropLast ?_, ru, q⟩
  · show its.toArray.eraseIdxIfInBounds (its.toArray.size - 1) = its.dropLast.toArray
    rw [List.size_toArray, List.eraseIdxIfInBounds_toArray, erase_last]
  · rw [List.length_dropLast]
    omega

/-! ### list + list, list += list, list * int -/
def rCat : R2 := fun x y H Q => ∃ l b xs zs, x = .ref l ∧ y = .ref b ∧ H l = some (.lst xs) ∧ H b = some (.lst zs) ∧ xs.length + zs.length ≤ sizeLine ∧ ∀ p, H p = none → Q (.ref p) (upd H p (.lst (xs ++ zs)))
theorem op_cat : OpR X (binaryOp .Add) rCat := by
  intro pins s σ H x y v u Q I rx ry h
  obtain ⟨l, b, xs, zs, rfl, rfl, hH, hB, hz, q⟩ := h
  cases rx
  cases ry
  obtain ⟨z, its, n, r, hl, e⟩ := I.lstM hH
  obtain ⟨z2, its2, n2, r2, hl2, e2⟩ := I.lstM hB
  refine PySem.P.add_list e e2 ?_ (by rw [List.size_toArray, List.size_toArray]; omega)
  have ea : its.toArray ++ its2.toArray = (its ++ its2).toArray := by simp
  rw [ea]
  exact ⟨.ref _, _, I.lnew (t' := s.toks) (r.append r2) (by rw [List.length_append]; omega), rfl, q _ I.fresh⟩
/-! ### del xs[i] -/
end

/-! ### xs[a:b] = ys -/
section
variable {prog : Program} {w : World} {A : Around} {E : Value → Shared → Prop} {s : Shared}
end

section
variable {X : Cx}
end
end L2

namespace Att
open PySem PySem.W PySem.Calls PyProof.Rows

/-! ### the script -/
theorem ints_of_wellAll {P : Params} {h : Heap} : ∀ (ns : List Int) (vs : List Value), WellAll P h vs (ns.map WData.int) → IntsAre vs ns := by
  intro ns
  induction ns with
  | nil =>
    intro vs w
    rw [List.map_nil] at w
    cases w
    exact .nil
  | cons n ns ih =>
    intro vs w
    rw [List.map_cons] at w
    cases w with
    | cons a b =>
      cases a
      exact .cons _ _ (ih _ b)

theorem script_of {l : OpenLaw} {n : Nat} (hn : l.most = some n) {P : Params} {h : Heap} {args : List WData} {vals : List Value}
    (hpre : l.row.toRowW.claim.pre args = true) (hwl : WellAll P h vals args) :
    ∃ a vs ns, vals = [Value.ref a] ∧ args = [WData.list (ns.map WData.int)] ∧ h.get? a = some { cls := .type "list", data := .seq vs.toArray } ∧ IntsAre vs ns ∧ ns.length ≤ n := by
  have hsh : WShape.hasAll [] args [.list .int] = true := (pre_splitW hpre).1
  have hc : l.pre.holds [] { args := args } = true := (pre_splitW hpre).2
  obtain ⟨d, r, rfl, h1, h2⟩ := hasAllW_cons hsh
  obtain rfl := hasAllW_nil h2
  obtain ⟨xs, rfl, h3⟩ := hasW_list h1
  obtain ⟨ns, rfl⟩ := items_int h3
  have hlen : ns.length ≤ n := by
    unfold OpenLaw.pre at hc
    have h4 : (WTm.not (.lt (.lit (.int (n : Int))) (.len (.arg 0)))).holds [] { args := [.list (ns.map .int)] } = true := by
      have h4 := (holds_andW hc).1
      rw [hn] at h4
      exact h4
    have h5 := condW_of h4 (w_not (w_lt w_lit (w_len_list (w_arg rfl))))
    rw [List.length_map] at h5
    refine Nat.le_of_not_lt fun q => ?_
    have q' : (n : Int) < ((ns.length : Nat) : Int) := by omega
    first
      | (rw [decide_eq_true q'] at h5; exact absurd h5 (by decide))
      | (simp at h5; omega)
  cases hwl with
  | cons w1 w2 =>
    cases w2
    cases w1 with
    | list ho hall => exact ⟨_, _, ns, rfl, rfl, ho, ints_of_wellAll ns _ hall, hlen⟩

theorem post_true (l : OpenLaw) (args : List WData) : l.row.toRowW.claim.post args (.bool true) args = true :=
  postW_of (r := l.row.toRowW) (X := (true == true))
    (show WShape.has [] (.bool true) .bool = true by first | rfl | decide | simp [WShape.has, WShape.arms, WShape.armsAll])
    (show (WTm.eq .res (.lit (.bool true))).value [] { args := args, res := some (.bool true), after := args } = some (.bool (true == true)) from w_eq_bool (w_res rfl) w_lit) rfl

/-! ### the attachment: holds_open's last premise (the goal 'hc' behind k_head) from a wpAny of the law's body -/
/-- the same from a codeAny of the CALL (for a layer whose function contracts speak of calls) -/
theorem attach_call {l : OpenLaw} {n : Nat} {q : Program} {loose : List Str} {XP : (Str → Option Value) → Heap → Prop} {YP : World → Heap → Prop} {d : DefRec}
    (hn : l.most = some n) (hdf : d.params.defaults = [])
    (call : ∀ (w : World) (s₀ s₁ : Shared) (mg mb : Str → Option Value) (fa : Addr) (o : Obj) (pm cd doc : Value) (a : Addr) (vs : List Value) (ns : List Int),
      Ground q loose [] XP w s₀ mg mb s₁.heap → YP w s₁.heap →
      s₁.heap.get? fa = some o → o.data = .func (docDef d.name d.params d.body d.scope pm cd doc) → s₁.heap.CodeRec cd d.name → mg d.name = some (.ref fa) →
      s₁.heap.get? a = some { cls := .type "list", data := .seq vs.toArray } → IntsAre vs ns → ns.length ≤ n → s₁.gens = #[] →
      codeAny (model l.prog w) callerA (.call (.ref fa) ⟨[.ref a], []⟩) (fun r s' => r = .ok (.ret (.bool true)) ∧ OldK s₁.heap s'.heap ∧ s'.os = s₁.os ∧ AllBare s'.gens) s₁) :
    WalkO q loose XP YP l.row.toRowW d [] (fun f vs => PySem.call f vs) := by
  intro w s₀ s₁ mg mb G Y fa o pm cd doc dV kV ho hd hcd hD hmg hg args vals as hpre hlay hrd hwl hlo
  obtain rfl : dV = .none := Dflts.none hD hdf
  obtain rfl : kV = .none := Dflts.noKw hD
  obtain ⟨a, vs, ns, rfl, rfl, hobj, hints, hlen⟩ := script_of hn hpre hwl
  refine enter_call (codeAny_mono (call w s₀ s₁ mg mb fa o pm cd doc a vs ns G Y ho (fd_plain hd) hcd hmg hobj hints hlen hg) fun r s' hq => ?_)
  obtain ⟨rfl, h2, h3, h4⟩ := hq
  exact ⟨.inl ⟨.bool true, .bool true, [], rfl, fun _ => rfl, .bool true, post_true l _, fun _ => ⟨List.Pairwise.nil, fun _ hm => (nomatch hm)⟩⟩, h2, h3, h4⟩

/-! ### rules over ANY heap (no ledger) from facts about the written part K: the library's own take a ledger (News) for what they write -/
section
variable {prog : Program} {w : World} {A : Around} {E : Value → Shared → Prop} {s : Shared} {K : Frag}

/-! the whole heap as the ledger: makes every rule that writes through a ledger a rule over any heap -/
end
end Att

namespace L2
open PySem PySem.Spec PyProof.Rows

theorem vals_ints : ∀ {vs : List Value} {ns : List Int}, IntsAre vs ns → Vals (ns.map V.int) vs
  | _, _, .nil => .nil
  | _, _, .cons n t h => .cons ⟨t, rfl⟩ (vals_ints h)

/-- nothing is tracked but the script, known to the object (or it is an object of the module) -/
def Only (H : Hp) : Prop := ∀ b, H b = none ∨ ∃ o xs, H b = some (.frz o (.lst xs))

/-- THE HEAD: the law's promise, at the heap behind the top. F, the promise of the law's def, may use that base is part of the heap (so K.In base, base.Ns mainGlobals mg stand in Mod) -/
theorem law_call {P : Program} {w : World} {K : PySem.W.Frag} {mg mb : Str → Option Value} {CX : CXT} {k : Nat} {fa a : Addr} {fd : FuncData} {x : Str} {sp : Sp} {s₁ : Shared} {vs : List Value} {ns : List Int}
    (KX : K.In s₁.heap) (hns : s₁.heap.Ns mainGlobals mg) (hb : s₁.heap.Ns builtinsNs mb) (hbb : ∀ x : Str, x ≠ "__name__" → mb x = bootBuiltins x) (hlim : s₁.heap.NoLimit) (hg : s₁.gens = #[])
    (ha : s₁.heap.get? a = some { cls := .type "list", data := .seq vs.toArray }) (hi : IntsAre vs ns) (hl : ns.length ≤ sizeLine) (hr : Room k callerA)
    (F : ∀ base : Heap, K.In base → base.Ns mainGlobals mg → FnOk P w K mg base CX k fa fd [x] sp) (hbind : ∀ (s : Shared) (u : Value), BindsTo s fd ⟨[u], []⟩ [(x, u)])
    (hsp : ∀ H : Hp, Only H → SqL K H a (ns.map V.int) → sp [.ref a] H (fun v _ => v = .bl true) fun _ _ _ => False)
    (hCX : ∀ H e s', CX [] H s₁ (fun _ _ _ => False) e s' → False) :
    codeAny (model P w) callerA (.call (.ref fa) ⟨[.ref a], []⟩) (fun r s' => r = .ok (.ret (.bool true)) ∧ OldK s₁.heap s'.heap ∧ s'.os = s₁.os ∧ AllBare s'.gens) s₁ := by
  have rv := vals_ints hi
  have lenV := hi.length
  -- from an abstract heap in which nothing but the script may be tracked
  have core : ∀ H : Hp, Only H → SqL K H a (ns.map V.int) → HOk P w H s₁.heap → (∀ b, H b ≠ none → b = a) → (H a ≠ none → K.lookup a = none) →
      codeAny (model P w) callerA (.call (.ref fa) ⟨[.ref a], []⟩) (fun r s' => r = .ok (.ret (.bool true)) ∧ OldK s₁.heap s'.heap ∧ s'.os = s₁.os ∧ AllBare s'.gens) s₁ := by
    intro H hO hS hok hA hK
    have base_of : ∀ {b : Addr} {o : Obj}, s₁.heap.get? b = some o → H b = none → (hidT s₁.heap H).get? b = some o := fun e n => hidT_get e n
    have noA : ∀ {b : Addr} {o : Obj} {es : Array DictEntry} {ep : Nat}, s₁.heap.get? b = some o → o.data = .dict es ep → H b = none := fun {b o es ep} e d => by
      cases q : H b with
      | none => rfl
      | some u =>
        have e' : b = a := hA b (by rw [q]; simp)
        subst e'
        rw [ha] at e; cases e
        have d' : Data.seq vs.toArray _ = Data.dict es ep := d
        cases d'
    have nsK : ∀ {b : Addr} {m : Str → Option Value}, s₁.heap.Ns b m → (hidT s₁.heap H).Ns b m := fun {b m} ⟨o, es, ep, e, d, r⟩ => ⟨o, es, ep, base_of e (noA e d), d, r⟩
    have hKb : K.In (hidT s₁.heap H) := fun b o e => base_of (KX b o e) (by
      cases q : H b with
      | none => rfl
      | some u =>
        have e' : b = a := hA b (by rw [q]; simp)
        subst e'
        rw [hK (by rw [q]; simp)] at e; cases e)
    have hM : Mod K mg (hidT s₁.heap H) := ⟨hKb, nsK hns, ⟨mb, nsK hb, hbb⟩, let ⟨mc, h1, h2⟩ := hlim; ⟨mc, nsK h1, h2⟩⟩
    have e0 : Env0 P w K mg (hidT s₁.heap H) callerA [] s₁ H := ⟨rfl, hM, fun b o e => of_hidT e, Nat.le_of_eq (hidT_size _ _), trivial, fun b hb => absurd (show b ∈ ([] : List Addr) from hb) (by simp), hok, .of_eq hg⟩
    refine codeAny_mono ((F _ hKb (nsK hns)).run callerA [] s₁ H ⟨[.ref a], []⟩ [.ref a] [.ref a] _ _ hr e0 (hbind s₁ (.ref a)) (.cons rfl .nil) (hsp H hO hS)) fun r s' h => ?_
    cases r with
    | error e => exact (hCX H e s' h).elim
    | ok fl =>
      cases fl with
      | next => exact False.elim h
      | brk => exact False.elim h
      | cont => exact False.elim h
      | ret u =>
        obtain ⟨v, H', os, bare, un, hok', r', q⟩ := h
        have q' : v = .bl true := q
        subst q'
        obtain rfl : u = Value.bool true := r'
        refine ⟨rfl, OldK.of_keep fun b o e => ?_, os, bare⟩
        cases q : H b with
        | none => exact un.keep b o e q (by intro z; exact absurd (show b ∈ ([] : List Addr) from z) (by simp)) (by simp)
        | some u =>
          rcases hO b with z | ⟨ob, xs, z⟩
          · rw [q] at z; cases z
          · have z2 := un.frzs b ob _ z
            obtain ⟨e1, _⟩ := hok b _ z
            obtain ⟨e2, _⟩ := hok' b _ z2
            rw [e] at e1; cases e1
            exact e2
  cases hk : K.lookup a with
  | some o =>
    -- the script is one of the module's own objects
    have e := KX a o hk
    rw [ha] at e
    cases e
    refine core (fun _ => none) (fun _ => .inl rfl) (.inr ⟨_, vs.toArray, _, hk, rfl, rfl, rfl, by rw [List.size_toArray, lenV]; exact hl, by simpa using rv⟩) (fun b u z => by have z' : (none : Option HO) = some u := z; cases z') (fun b z => absurd rfl z) fun z => absurd rfl z
  | none =>
    refine core (fun b => if b = a then some (.frz { cls := .type "list", data := .seq vs.toArray } (.lst (ns.map V.int))) else none) (fun b => ?_) (.inl (.inr ⟨{ cls := .type "list", data := .seq vs.toArray }, if_pos rfl⟩)) (fun b u z => ?_) (fun b z => ?_) fun _ => hk
    · by_cases hb : b = a
      · exact .inr ⟨_, _, if_pos hb⟩
      · exact .inl (if_neg hb)
    · by_cases hb : b = a
      · have z' := (if_pos hb).symm.trans z
        cases z'
        subst hb
        exact ⟨ha, by rw [List.length_map]; exact hl, vs, _, rv, ha⟩
      · have z' := (if_neg hb).symm.trans z
        cases z'
    · by_cases hb : b = a
      · exact hb
      · exact absurd (if_neg hb) z
end L2

namespace L2
open PySem PySem.Spec PyProof.Rows

/-- the goal that k_head leaves (case hc), from the law's promise. F gives the function object fd (K's own) once, then the promise over every base -/
theorem walk_of {l : PySem.W.OpenLaw} {n k : Nat} {q : Program} {loose : List Str} {XP : (Str → Option Value) → Heap → Prop} {YP : World → Heap → Prop} {d : DefRec} {K : Params → PySem.W.Frag} {CX : World → CXT} {sp : World → Sp} {x : Str}
    (hn : l.most = some n) (hn2 : n ≤ sizeLine) (hdf : d.params.defaults = []) (hr : Room k callerA)
    (hY : ∀ (w : World) (h : Heap), YP w h → (K w.params).In h)
    (F : ∀ (w : World) (mg : Str → Option Value) (fa : Addr) (h : Heap), (K w.params).In h → h.Ns mainGlobals mg → mg d.name = some (.ref fa) →
      ∃ fd : FuncData, (∀ (s : Shared) (u : Value), BindsTo s fd ⟨[u], []⟩ [(x, u)]) ∧
        ∀ base : Heap, (K w.params).In base → base.Ns mainGlobals mg → FnOk l.prog w (K w.params) mg base (CX w) k fa fd [x] (sp w))
    (hsp : ∀ (w : World) (H : Hp) (a : Addr) (ns : List Int), ns.length ≤ n → Only H → SqL (K w.params) H a (ns.map V.int) → sp w [.ref a] H (fun v _ => v = .bl true) fun _ _ _ => False)
    (hCX : ∀ (w : World) (H : Hp) (s : Shared) (e : Value) (s' : Shared), CX w [] H s (fun _ _ _ => False) e s' → False) :
    PySem.W.WalkO q loose XP YP l.row.toRowW d [] (fun f vs => PySem.call f vs) := by
  refine Att.attach_call hn hdf fun w s₀ s₁ mg mb fa o pm cd doc a vs ns G Y ho hd hcd hmg hobj hints hlen hg => ?_
  have KX := hY w _ Y
  obtain ⟨fd, hb, hF⟩ := F w mg fa _ KX G.T.g hmg
  exact law_call KX G.T.g G.T.b G.T.builtins G.T.nolimit hg hobj hints (Nat.le_trans hlen hn2) hr hF hb (fun H hO hS => hsp w H a ns hlen hO hS) fun H e s' => hCX w H s₁ e s'
end L2

/-! SHORT WORDS over the layer: a def of the text, its body, what a loop and a test want. -/
namespace L2
open PySem PySem.Spec PyProof.Rows

/-! ### the text by places -/
def defArgs (s : Stmt) : Arguments := match s with
  | .FunctionDef _ a _ _ _ _ _ _ _ _ => a
  | _ => { posonlyargs := [], args := [], vararg := none, kwonlyargs := [], kw_defaults := [], kwarg := none, defaults := [] }
def defBody (s : Stmt) : List Stmt := match s with
  | .FunctionDef _ _ b _ _ _ _ _ _ _ => b
  | _ => []
def defScope (s : Stmt) : Scope := match s with
  | .FunctionDef _ _ _ _ _ _ sc _ _ _ => sc
  | _ => { kind := .function, names := [], isGenerator := false, isCoroutine := false }

/-! ### no exception leaves a def -/
abbrev CX0 : CXT := fun _ _ _ _ _ _ => False
abbrev E0 : XK := fun _ _ _ => False
theorem pass0 {X : Cx} : Passes CX0 X E0 := fun _ _ _ _ _ _ _ h => h.elim

/-! ### a def (or method) of the text as it stands behind the top -/
structure Fun (K : PySem.W.Frag) (x qual : Str) (st : Stmt) (f : Addr) (fd : FuncData) : Prop where
  ex : ∃ (oc : Value) (od : Option Addr) (kV doc pm : Value) (an : Option Addr) (cdv ct : Value) (osl : Array (Option Value)),
    fd = PySem.W.fnOf x qual (defArgs st) (defBody st) (defScope st) .none kV doc pm an cdv ct ∧ K.lookup f = some ⟨oc, od, .func fd, osl⟩ ∧ PySem.W.codeIn K cdv qual = true
  kp : PySem.W.keepIn K (.ref f) = true
section
variable {P : Program} {w : World} {K : PySem.W.Frag} {mg : Str → Option Value} {base : Heap}
/-- THE RULE for a def: its body as a term of rules, and the reading of that term -/
theorem Fun.ok {x qual : Str} {st : Stmt} {f : Addr} {fd : FuncData} {N ps : List Str} {k : Nat} {sp : Sp} (F : Fun K x qual st f fd) (S : FnScope N ps (defScope st)) (len : ∀ vs H Q E, sp vs H Q E → vs.length = ps.length)
    (hbody : ∀ (cdv : Value) (A : Around) (outer : List Env) (s : Shared) (H : Hp) (vs : List V) (Q : VK) (E : XK), Room k (A.deeper (envOfC qual (defScope st) s.heap.objs.size f cdv)) → sp vs H Q E →
      ∃ t, PSs (cxOf CX0 P w K mg base N qual (defScope st) f cdv A outer s H E).nox (defBody st) t ∧ t { nx := fun _ H' => Q .non H', rt := Q } (start N vs) H) : FnOk P w K mg base CX0 (k + 1) f fd ps sp := by
  obtain ⟨oc, od, kV, doc, pm, an, cdv, ct, osl, rfl, lk, hcd⟩ := F.ex
  refine fn_of lk hcd S len fun A outer s H vs Q E hr hsp => ?_
  obtain ⟨t, h, q⟩ := hbody cdv A outer s H vs Q E hr hsp
  exact ⟨t, h.nox, q⟩
/-- how its arguments bind (no defaults): h is «fun _ _ _ _ _ _ us hl => match us, hl with | [_, _], _ => rfl», one _ a parameter -/
theorem Fun.binds {x qual : Str} {st : Stmt} {f : Addr} {fd : FuncData} {ps : List Str} (F : Fun K x qual st f fd)
    (h : ∀ (kV doc pm : Value) (an : Option Addr) (cdv ct : Value) (us : List Value), us.length = ps.length → bindArgs (PySem.W.fnOf x qual (defArgs st) (defBody st) (defScope st) .none kV doc pm an cdv ct) ⟨us, []⟩ = pure (ps.zip us)) : Binds K fd ps [] := by
  obtain ⟨oc, od, kV, doc, pm, an, cdv, ct, osl, rfl, lk, hcd⟩ := F.ex
  exact .all (h kV doc pm an cdv ct)
theorem fun_mk {x qual : Str} {st : Stmt} {f : Addr} {oc : Value} {od an : Option Addr} {osl : Array (Option Value)} {kV doc pm cdv ct : Value} (l : K.lookup f = some ⟨oc, od, .func (PySem.W.fnOf x qual (defArgs st) (defBody st) (defScope st) .none kV doc pm an cdv ct), osl⟩)
    (c : PySem.W.codeIn K cdv qual = true) (k : PySem.W.keepIn K (.ref f) = true) : Fun K x qual st f (PySem.W.fnOf x qual (defArgs st) (defBody st) (defScope st) .none kV doc pm an cdv ct) := ⟨⟨oc, od, kV, doc, pm, an, cdv, ct, osl, rfl, l, c⟩, k⟩
end
theorem hu_of {A : Around} {k : Nat} (hr : Room k A) : A.units + 1 < cLine := Nat.lt_of_le_of_lt (Nat.add_le_add_left (by decide : 1 ≤ 64) _) hr.units
/-! ### expressions in short: the name that stands in the i-th slot -/
section
variable {X : Cx}
theorem pv (i : Nat) {x : Str} {pos : Pos} (hN : X.N[i]? = some x := by rfl) (hv : Vis X.env.scope x := by first | exact Or.inl rfl | exact Or.inr (Or.inl rfl) | exact Or.inr (Or.inr rfl)) (hd : (x == ("__debug__" : Str)) = false := by decide)
    (hcd : (x == ("__classdict__" : Str)) = false := by decide) : PE X (.Name x pos) (tVar i) := pe_var hN hv hd hcd
end

/-! ### tests -/
theorem iteF {A B : Prop} (h : B) : if false = true then A else B := by
  rw [if_neg Bool.false_ne_true]
  exact h
theorem iteT {A B : Prop} (h : A) : if true = true then A else B := by
  rw [if_pos rfl]
  exact h
theorem ite2 {c A B : Prop} [Decidable c] (h1 : c → A) (h2 : ¬ c → B) : if c then A else B := by
  by_cases h : c
  · rw [if_pos h]
    exact h1 h
  · rw [if_neg h]
    exact h2 h
theorem iteNS {c A B : Prop} [Decidable c] (hc : c) (h : B) : if (!decide c) = true then A else B := by
  rw [decide_eq_true hc]
  exact iteF h

/-! ### heaps -/
/-- all that was tracked is as it was -/
def Same (H H' : Hp) : Prop := ∀ b o, H b = some o → H' b = some o
theorem Same.refl (H : Hp) : Same H H := fun _ _ h => h
theorem Same.trans {H H1 H2 : Hp} (a : Same H H1) (b : Same H1 H2) : Same H H2 := fun c o h => b c o (a c o h)
theorem Same.free {H H' : Hp} (e : Same H H') {l : Addr} (h : H' l = Option.none) : H l = Option.none := by
  cases q : H l with
  | none => rfl
  | some o =>
    rw [e l o q] at h
    cases h
theorem Same.seq {K : PySem.W.Frag} {H H' : Hp} {a : Addr} {xs : List V} (e : Same H H') (h : SqL K H a xs) : SqL K H' a xs := by
  rcases h with (h | ⟨o, h⟩) | h
  · exact .inl (.inl (e _ _ h))
  · exact .inl (.inr ⟨o, e _ _ h⟩)
  · exact .inr h

end L2

namespace L2
open PySem PySem.Spec PyProof.Rows

/-! ### lists of pairs as tables -/
section
variable {κ : Type} [DecidableEq κ]
def valV (kvs : List (κ × V)) (k : κ) : Option V := (kvs.find? fun kv => decide (kv.1 = k)).map (·.2)
/-- in its place, or at the end -/
def putK (kvs : List (κ × V)) (k : κ) (v : V) : List (κ × V) :=
  if (kvs.any fun kv => decide (kv.1 = k)) = true then kvs.map (fun kv => if kv.1 = k then (kv.1, v) else kv) else kvs ++ [(k, v)]
def dropK (kvs : List (κ × V)) (k : κ) : List (κ × V) := kvs.filter fun kv => decide (kv.1 ≠ k)

theorem valV_pos {p : κ × V} {r : List (κ × V)} {k : κ} (e : p.1 = k) : valV (p :: r) k = some p.2 := by simp [valV, List.find?_cons, e]
theorem valV_neg {p : κ × V} {r : List (κ × V)} {k : κ} (e : ¬ p.1 = k) : valV (p :: r) k = valV r k := by simp [valV, List.find?_cons, e]
theorem valV_any (k : κ) : ∀ kvs : List (κ × V), (kvs.any fun kv => decide (kv.1 = k)) = (valV kvs k).isSome
  | [] => rfl
  | p :: r => by
    rw [List.any_cons]
    by_cases e : p.1 = k
    · simp only [valV_pos e, decide_eq_true e, Bool.true_or, Option.isSome_some]
    · rw [valV_neg e, decide_eq_false e, Bool.false_or]; exact valV_any k r
theorem length_putK (kvs : List (κ × V)) (k : κ) (v : V) : (putK kvs k v).length ≤ kvs.length + 1 := by
  unfold putK
  split
  · rw [List.length_map]; omega
  · rw [List.length_append, List.length_cons, List.length_nil]; omega
theorem putK_new {kvs : List (κ × V)} {k : κ} (v : V) (h : valV kvs k = none) : putK kvs k v = kvs ++ [(k, v)] := by
  unfold putK
  rw [valV_any, h]
  exact if_neg (by decide)

theorem RelO.isSome_eq {o : Option V} {u : Option Value} (r : RelO o u) : o.isSome = u.isSome := by
  cases o with
  | none => cases u with
    | none => rfl
    | some _ => exact (show False from r).elim
  | some _ => cases u with
    | none => exact (show False from r).elim
    | some _ => rfl
theorem RelO.getD {o : Option V} {u : Option Value} {d : V} {d' : Value} (r : RelO o u) (rd : RelV d d') : RelV (o.getD d) (u.getD d') := by
  cases o with
  | none => cases u with
    | none => exact rd
    | some _ => exact (show False from r).elim
  | some _ => cases u with
    | none => exact (show False from r).elim
    | some _ => exact r

/-- raw tables of the same keys -/
theorem KV.val {kvs : List (κ × V)} {vs : List (κ × Value)} (r : KV kvs vs) (k : κ) : RelO (valV kvs k) (valueAt vs k) := by
  unfold KV at r
  induction r with
  | nil => exact True.intro
  | @cons p q ps qs h t ih =>
    obtain ⟨h1, h2⟩ := h
    by_cases e : p.1 = k
    · have e' : q.1 = k := h1.symm.trans e
      have b : valueAt (q :: qs) k = some q.2 := by simp [valueAt, List.find?_cons, e']
      rw [valV_pos e, b]; exact h2
    · have e' : ¬ q.1 = k := fun z => e (h1.trans z)
      have b : valueAt (q :: qs) k = valueAt qs k := by simp [valueAt, List.find?_cons, e']
      rw [valV_neg e, b]; exact ih
theorem KV.any {kvs : List (κ × V)} {vs : List (κ × Value)} (r : KV kvs vs) (k : κ) : (kvs.any fun kv => decide (kv.1 = k)) = vs.any fun kv => decide (kv.1 = k) := by
  unfold KV at r
  induction r with
  | nil => rfl
  | cons h t ih => rw [List.any_cons, List.any_cons, ih, h.1]
theorem KV.repl {kvs : List (κ × V)} {vs : List (κ × Value)} (r : KV kvs vs) (k : κ) {y : V} {u : Value} (ry : RelV y u) :
    KV (kvs.map fun kv => if kv.1 = k then (kv.1, y) else kv) (vs.map fun kv => if kv.1 = k then (kv.1, u) else kv) := by
  unfold KV at r ⊢
  induction r with
  | nil => exact .nil
  | @cons p q ps qs h t ih =>
    rw [List.map_cons, List.map_cons]
    refine .cons ?_ ih
    obtain ⟨h1, h2⟩ := h
    by_cases e : p.1 = k
    · rw [if_pos e, if_pos (h1.symm.trans e)]; exact ⟨h1, ry⟩
    · rw [if_neg e, if_neg (fun z => e (h1.trans z))]; exact ⟨h1, h2⟩
theorem KV.put {kvs : List (κ × V)} {vs : List (κ × Value)} (r : KV kvs vs) (k : κ) {y : V} {u : Value} (ry : RelV y u) : KV (putK kvs k y) (stored vs k u) := by
  unfold putK stored
  rw [r.any k]
  by_cases e : (vs.any fun kv => decide (kv.1 = k)) = true
  · rw [if_pos e, if_pos e]; exact r.repl k ry
  · rw [if_neg e, if_neg e]; exact Paired.snoc r ⟨rfl, ry⟩
theorem KV.drop {kvs : List (κ × V)} {vs : List (κ × Value)} (r : KV kvs vs) (k : κ) : KV (dropK kvs k) (without vs k) := by
  unfold KV at r ⊢
  unfold dropK without
  induction r with
  | nil => exact .nil
  | @cons p q ps qs h t ih =>
    obtain ⟨h1, h2⟩ := h
    rw [List.filter_cons, List.filter_cons]
    by_cases e : p.1 = k
    · have a : ¬ decide (p.1 ≠ k) = true := by simp [e]
      have b : ¬ decide (q.1 ≠ k) = true := by simp [h1.symm.trans e]
      rw [if_neg a, if_neg b]; exact ih
    · have e' : ¬ q.1 = k := fun z => e (h1.trans z)
      have a : decide (p.1 ≠ k) = true := by simp [e]
      have b : decide (q.1 ≠ k) = true := by simp [e']
      rw [if_pos a, if_pos b]; exact .cons ⟨h1, h2⟩ ih
theorem KV.keys {kvs : List (κ × V)} {vs : List (κ × Value)} (r : KV kvs vs) : kvs.map (·.1) = vs.map (·.1) := by
  unfold KV at r
  induction r with
  | nil => rfl
  | cons h t ih => rw [List.map_cons, List.map_cons, ih, h.1]
theorem KV.length {kvs : List (κ × V)} {vs : List (κ × Value)} (r : KV kvs vs) : kvs.length = vs.length := Paired.length r
end


/-! ### a tracked dict, its keys ints and texts or tuples of these -/
theorem kV_is {P : Program} {w : World} {k : Key} {u : Value} (r : RelV (kV k) u) : (mixKind P w).is k u = true := by
  cases k with
  | inl i => obtain ⟨t, e⟩ := (show ∃ t, u = Value.int i t from r); subst e; exact mixKind_int P w i t
  | inr x => obtain ⟨t, e⟩ := (show ∃ t, u = Value.str x t from r); subst e; exact mixKind_str P w x t
theorem items_are {P : Program} {w : World} : ∀ {ks : List Key} {us : List Value}, Vals (ks.map kV) us → ItemsAre (mixKind P w) ks us
  | [], _, r => by rw [List.map_nil] at r; cases r; exact .nil
  | k :: ks, _, r => by
    rw [List.map_cons] at r
    cases r with
    | cons h t => exact .cons (kV_is h) (items_are t)

/-- raw entries of a dict with tuple keys -/
abbrev KT (H : Hp) : List (List Key × V) → List (List Key × Addr × Value) → Prop := Paired fun p q => p.1 = q.1 ∧ H q.2.1 = some (.tup (p.1.map kV)) ∧ RelV p.2 q.2.2
theorem KT.val {H : Hp} {kvs : List (List Key × V)} {xs : List (List Key × Addr × Value)} (r : KT H kvs xs) (k : List Key) : RelO (valV kvs k) ((atKey xs k).map (·.2)) := by
  induction r with
  | nil => exact True.intro
  | @cons p q ps qs h t ih =>
    obtain ⟨h1, _, h2⟩ := h
    by_cases e : p.1 = k
    · have e' : q.1 = k := h1.symm.trans e
      have b : atKey (q :: qs) k = some q.2 := by simp [atKey, List.find?_cons, e']
      rw [valV_pos e, b]; exact h2
    · have e' : ¬ q.1 = k := fun z => e (h1.trans z)
      have b : atKey (q :: qs) k = atKey qs k := by simp [atKey, List.find?_cons, e']
      rw [valV_neg e, b]; exact ih
theorem KT.repl {H : Hp} {kvs : List (List Key × V)} {xs : List (List Key × Addr × Value)} (r : KT H kvs xs) (k : List Key) {y : V} {u : Value} (ry : RelV y u) :
    KT H (kvs.map fun kv => if kv.1 = k then (kv.1, y) else kv) (xs.map (putAt k u)) := by
  induction r with
  | nil => exact .nil
  | @cons p q ps qs h t ih =>
    rw [List.map_cons, List.map_cons]
    refine .cons ?_ ih
    obtain ⟨h1, h2, h3⟩ := h
    unfold putAt
    by_cases e : p.1 = k
    · rw [if_pos e, if_pos (h1.symm.trans e)]; exact ⟨h1, h2, ry⟩
    · rw [if_neg e, if_neg (fun z => e (h1.trans z))]; exact ⟨h1, h2, h3⟩
theorem KT.put {H : Hp} {kvs : List (List Key × V)} {xs : List (List Key × Addr × Value)} (r : KT H kvs xs) (k : List Key) {b : Addr} {y : V} {u : Value} (hb : H b = some (.tup (k.map kV))) (ry : RelV y u) :
    KT H (putK kvs k y) (storedH xs k b u) := by
  have e : (kvs.any fun kv => decide (kv.1 = k)) = (atKey xs k).isSome := by
    rw [valV_any, (r.val k).isSome_eq, Option.isSome_map]
  unfold putK storedH
  rw [e]
  by_cases q : (atKey xs k).isSome = true
  · rw [if_pos q, if_pos q]; exact r.repl k ry
  · rw [if_neg q, if_neg q]; exact Paired.snoc r ⟨rfl, hb, ry⟩
theorem KT.keeps {H H' : Hp} {kvs : List (List Key × V)} {xs : List (List Key × Addr × Value)} (r : KT H kvs xs) (ht : ∀ b ys, H b = some (.tup ys) → H' b = some (.tup ys)) : KT H' kvs xs :=
  Paired.mapP r fun _ _ z => ⟨z.1, ht _ _ z.2.1, z.2.2⟩

section
variable {P : Program} {w : World} {H : Hp} {h : Heap} {a : Addr}
theorem rd_of {u : HO} (ok : HOk P w H h) (e : Rd H a u) : ObjOk P w H h a u := e.ok ok
theorem dk_rd {kvs : List (Key × V)} (ok : HOk P w H h) (e : Rd H a (.dK kvs)) : kvs.length ≤ sizeLine ∧ (a == sysModules) = false ∧ ∃ vs, KV kvs vs ∧ h.DictOf (mixKind P w) a vs :=
  show ObjOk P w H h a (.dK kvs) from rd_of ok e
theorem dk_of {kvs : List (Key × V)} (ok : HOk P w H h) (e : H a = some (.dK kvs)) : kvs.length ≤ sizeLine ∧ (a == sysModules) = false ∧ ∃ vs, KV kvs vs ∧ h.DictOf (mixKind P w) a vs := dk_rd ok (.inl e)
/-- a tracked tuple of ints and texts is a key -/
theorem key_of {ks : List Key} (ok : HOk P w H h) (e : H a = some (.tup (ks.map kV))) : (tupleKind (mixKind P w)).is h ks a := by
  obtain ⟨_, its, r, o, h1, h2, n, h3⟩ := (show ObjOk P w H h a (.tup (ks.map kV)) from ok a _ e)
  exact ⟨o, its.toArray, n, h1, h2, h3, by simpa using items_are r⟩
theorem dt_rd {kvs : List (List Key × V)} (ok : HOk P w H h) (e : Rd H a (.dT kvs)) : kvs.length ≤ sizeLine ∧ (a == sysModules) = false ∧
    ∃ xs, KT H kvs xs ∧ h.DictOfH (tupleKind (mixKind P w)) a xs := by
  obtain ⟨z, y, xs, r, o, es, ep, h1, h2, h3, h4, h5⟩ := (show ObjOk P w H h a (.dT kvs) from rd_of ok e)
  refine ⟨z, y, xs, r, o, es, ep, h1, h2, h3, h4, fun x hx => ?_, h5⟩
  have all : ∀ {l : List (List Key × V)} {m : List (List Key × Addr × Value)}, KT H l m → ∀ x ∈ m, (tupleKind (mixKind P w)).is h x.1 x.2.1 := by
    intro l m q
    induction q with
    | nil => intro x hx; exact nomatch hx
    | @cons p q ps qs hq t ih =>
      intro x hx
      rcases List.mem_cons.mp hx with e | hx
      · subst e
        exact key_of ok (by rw [← hq.1]; exact hq.2.1)
      · exact ih x hx
  exact all r x hx
theorem dt_of {kvs : List (List Key × V)} (ok : HOk P w H h) (e : H a = some (.dT kvs)) : kvs.length ≤ sizeLine ∧ (a == sysModules) = false ∧
    ∃ xs, KT H kvs xs ∧ h.DictOfH (tupleKind (mixKind P w)) a xs := dt_rd ok (.inl e)
end

/-- what the dict at a holds at the key y -/
def DGet (H : Hp) (a : Addr) (y : V) (r : Option V) : Prop :=
  (∃ kvs k, Rd H a (.dK kvs) ∧ y = kV k ∧ r = valV kvs k) ∨ ∃ kvs k b, Rd H a (.dT kvs) ∧ y = .ref b ∧ H b = some (.tup (k.map kV)) ∧ r = valV kvs k
/-- the heap behind a[y] = v -/
def DPut (H : Hp) (a : Addr) (y v : V) (H' : Hp) : Prop :=
  (∃ kvs k, H a = some (.dK kvs) ∧ y = kV k ∧ kvs.length < sizeLine ∧ H' = upd H a (.dK (putK kvs k v))) ∨
  ∃ kvs k b, H a = some (.dT kvs) ∧ y = .ref b ∧ H b = some (.tup (k.map kV)) ∧ kvs.length < sizeLine ∧ H' = upd H a (.dT (putK kvs k v))
theorem DGet.k {H : Hp} {a : Addr} {kvs : List (Key × V)} {k : Key} (e : H a = some (.dK kvs)) : DGet H a (kV k) (valV kvs k) := .inl ⟨kvs, k, .inl e, rfl, rfl⟩
theorem DGet.t {H : Hp} {a b : Addr} {kvs : List (List Key × V)} {k : List Key} (e : H a = some (.dT kvs)) (eb : H b = some (.tup (k.map kV))) : DGet H a (.ref b) (valV kvs k) := .inr ⟨kvs, k, b, .inl e, rfl, eb, rfl⟩
theorem DPut.k {H : Hp} {a : Addr} {kvs : List (Key × V)} {k : Key} {v : V} (e : H a = some (.dK kvs)) (hl : kvs.length < sizeLine) : DPut H a (kV k) v (upd H a (.dK (putK kvs k v))) := .inl ⟨kvs, k, e, rfl, hl, rfl⟩
theorem DPut.t {H : Hp} {a b : Addr} {kvs : List (List Key × V)} {k : List Key} {v : V} (e : H a = some (.dT kvs)) (eb : H b = some (.tup (k.map kV))) (hl : kvs.length < sizeLine) :
    DPut H a (.ref b) v (upd H a (.dT (putK kvs k v))) := .inr ⟨kvs, k, b, e, rfl, eb, hl, rfl⟩


section
variable {X : Cx} {pins : List (Addr × Obj)} {σ : St} {H : Hp} {s : Shared} {a : Addr} {y v : V} {u r : Value} {o : Option V} {A : Around} {E : Value → Shared → Prop}

theorem Inv.big (I : Inv X pins σ H s) : sysModules < s.heap.objs.size := by
  have h : mainGlobals < s.heap.objs.size := (I.mod.glob.keeps I.bk).lt
  exact Nat.lt_trans (by decide) h

/-- d[y], there -/
theorem d_getItem {Q : Value → Shared → Prop} (hu : A.units + 1 < cLine) (I : Inv X pins σ H s) (g : DGet H a y (some v)) (ry : RelV y u) (h : ∀ w' s', Inv X pins σ H s' → RelV v w' → Q w' s') :
    wpAny (model X.prog X.w) A (getItem (.ref a) u) Q E s := by
  rcases g with ⟨kvs, k, e, ey, l⟩ | ⟨kvs, k, b, e, ey, eb, l⟩
  · subst ey
    obtain ⟨z, hd, vs, rel, dd⟩ := dk_rd I.hok e
    obtain ⟨w', hw, rw'⟩ := RelO.some_of (v := v) (o := valueAt vs k) (by rw [l]; exact rel.val k)
    exact wpAny_getItem_of (kV_is ry) dd.mapOf hw (h w' _ (I.tok _) rw')
  · subst ey
    cases (show u = Value.ref b from ry)
    obtain ⟨z, hd, xs, rel, dd⟩ := dt_rd I.hok e
    obtain ⟨w', hw, rw'⟩ := RelO.some_of (v := v) (o := (atKey xs k).map (·.2)) (by rw [l]; exact rel.val k)
    obtain ⟨p, hp, hp2⟩ := Option.map_eq_some_iff.mp hw
    refine wpAny_getItem_heap (tupleKind_room_in1 hu) (key_of I.hok eb) dd hp ?_
    rw [hp2]
    exact h w' _ (I.tok _) rw'
/-- y in d -/
theorem d_in {Q : Value → Shared → Prop} (hu : A.units + 1 < cLine) (I : Inv X pins σ H s) (g : DGet H a y o) (ry : RelV y u) (h : ∀ s', Inv X pins σ H s' → Q (.bool o.isSome) s') :
    wpAny (model X.prog X.w) A (compareOp .In u (.ref a)) Q E s := by
  rcases g with ⟨kvs, k, e, ey, l⟩ | ⟨kvs, k, b, e, ey, eb, l⟩
  · subst ey
    obtain ⟨z, hd, vs, rel, dd⟩ := dk_rd I.hok e
    refine wpAny_in_of (kV_is ry) hd dd.mapOf ?_
    rw [← (rel.val k).isSome_eq, ← l]
    exact h _ (I.tok _)
  · subst ey
    cases (show u = Value.ref b from ry)
    obtain ⟨z, hd, xs, rel, dd⟩ := dt_rd I.hok e
    refine wpAny_in_heap (tupleKind_room_in1 hu) (key_of I.hok eb) hd dd ?_
    have q := (rel.val k).isSome_eq
    rw [Option.isSome_map] at q
    rw [← q, ← l]
    exact h _ (I.tok _)
theorem d_notIn {Q : Value → Shared → Prop} (hu : A.units + 1 < cLine) (I : Inv X pins σ H s) (g : DGet H a y o) (ry : RelV y u) (h : ∀ s', Inv X pins σ H s' → Q (.bool (!o.isSome)) s') :
    wpAny (model X.prog X.w) A (compareOp .NotIn u (.ref a)) Q E s := by
  rcases g with ⟨kvs, k, e, ey, l⟩ | ⟨kvs, k, b, e, ey, eb, l⟩
  · subst ey
    obtain ⟨z, hd, vs, rel, dd⟩ := dk_rd I.hok e
    refine wpAny_notIn_of (kV_is ry) hd dd.mapOf ?_
    rw [← (rel.val k).isSome_eq, ← l]
    exact h _ (I.tok _)
  · subst ey
    cases (show u = Value.ref b from ry)
    obtain ⟨z, hd, xs, rel, dd⟩ := dt_rd I.hok e
    refine wpAny_notIn_heap (tupleKind_room_in1 hu) (key_of I.hok eb) hd dd ?_
    have q := (rel.val k).isSome_eq
    rw [Option.isSome_map] at q
    rw [← q, ← l]
    exact h _ (I.tok _)
/-- a dict's object is replaced -/
theorem d_write {h' : Heap} {t' : Nat} {ob : HO} (I : Inv X pins σ H s) (mu : Mut (H a)) (hs : Heap.SameBut a s.heap h') (he : ∃ q, h'.get? a = some q) (new : ObjOk X.prog X.w (upd H a ob) h' a ob) :
    Inv X pins σ (upd H a ob) { s with heap := h', toks := t' } :=
  I.write (x := a) (e := a) mu (.inl rfl) (fun b q hb z => (hs.2 b hb).trans z) he new
theorem dk_new {P : Program} {w : World} {H' : Hp} {h' : Heap} {kvs : List (Key × V)} {vs : List (Key × Value)} (z : kvs.length ≤ sizeLine) (hd : (a == sysModules) = false) (rel : KV kvs vs) (dd : h'.DictOf (mixKind P w) a vs) :
    ObjOk P w H' h' a (.dK kvs) := ⟨z, hd, vs, rel, dd⟩
/-- d[y] = v -/
theorem d_setItem {H' : Hp} {Q : Unit → Shared → Prop} (hu : A.units + 1 < cLine) (I : Inv X pins σ H s) (g : DPut H a y v H') (ry : RelV y u) (rv : RelV v r) (h : ∀ s', Inv X pins σ H' s' → Q () s') :
    wpAny (model X.prog X.w) A (setItem (.ref a) u r) Q E s := by
  rcases g with ⟨kvs, k, e, ey, l, eH⟩ | ⟨kvs, k, b, e, ey, eb, l, eH⟩
  · subst ey eH
    obtain ⟨z, hd, vs, rel, dd⟩ := dk_of I.hok e
    have hz : vs.length ≤ sizeLine := by rw [← rel.length]; exact z
    have hl : (putK kvs k v).length ≤ sizeLine := by have := length_putK kvs k v; omega
    refine wpAny_setItem_pairs (hsz := hz) (kV_is ry) dd fun h' dd' hs => h _ ?_
    have he : ∃ q, h'.get? a = some q := let ⟨q, _, _, hq, _⟩ := dd'; ⟨q, hq⟩
    exact d_write I (by rw [e]; exact True.intro) hs he (dk_new hl hd (rel.put k rv) dd')
  · subst ey eH
    cases (show u = Value.ref b from ry)
    obtain ⟨z, hd, xs, rel, dd⟩ := dt_of I.hok e
    have hz : xs.length ≤ sizeLine := by rw [← Paired.length rel]; exact z
    have hl : (putK kvs k v).length ≤ sizeLine := by have := length_putK kvs k v; omega
    refine wpAny_setItem_heap (hsz := hz) (tupleKind_room_in1 hu) (key_of I.hok eb) dd fun h' dd' hs => h _ ?_
    obtain ⟨q, es, ep, hq, h2, h3, h4, _, h5⟩ := dd'
    refine d_write I (by rw [e]; exact True.intro) hs ⟨q, hq⟩ ⟨hl, hd, _, (rel.put k eb rv).keeps fun c ys ec => ?_, q, es, ep, hq, h2, h3, h4, h5⟩
    rw [upd_ne (ne_of ec e (fun z => nomatch z))]
    exact ec
end

section
variable {X : Cx} {pins : List (Addr × Obj)} {σ : St} {H : Hp} {s : Shared} {a : Addr} {kvs : List (Key × V)} {k : Key} {u : Value} {A : Around} {E : Value → Shared → Prop}
end


/-! ### readings and rules -/
/-- the element of a subscription, not a slice -/
def NoSl (i : Expr) : Prop := ∀ ov iv, subscripted i false ov iv = operate [ov, iv] (getItem ov iv)
theorem subD_of {prog : Program} {w : World} {A : Around} {E : Value → Shared → Prop} {s : Shared} {env : Env} {value slice : Expr} {pos : Pos} {T id : String} {Q : Value → Shared → Prop}
    (hl : typeLookup (.type T) "__getitem__" = pure (some (.builtin id))) (hs : NoSl slice)
    (h : wpAny (model prog w) A (eval value env) (fun o s₁ => wpAny (model prog w) A (eval slice env) (fun i s₂ => s₂.TypeIs o T ∧ wpAny (model prog w) A (getItem o i) Q E s₂) E s₁) E s) :
    wpAny (model prog w) A (eval (.Subscript value slice pos) env) Q E s := by
  refine Subscript_ (wpAny_mono h (fun o s₁ h₁ => wpAny_mono h₁ (fun i s₂ h₂ => ?_) fun _ _ x => x) fun _ _ x => x)
  obtain ⟨hT, h₂⟩ := h₂
  unfold subscriptTail
  refine wpAny_bind ?_
  rw [getitemInPython_of_ne hT.not_modules]
  refine wpAny_bind (wpAny_specialOf hT hl ?_)
  have fin : wpAny (model prog w) A (subscripted slice false o i) (fun r s₃ => wpAny (model prog w) A (letTemporaryGo value o r >>= fun _ => pure r) Q E s₃) E s₂ := by
    rw [hs o i]
    exact wpAny_operating (wpAny_mono h₂ (fun r s₃ h₃ => wpAny_bind (wpAny_letTemporaryGo (wpAny_pure h₃))) fun _ _ x => x)
  first
    | exact wpAny_pure (wpAny_bind fin)
    | exact wpAny_bind (wpAny_pure (wpAny_bind fin))
    | exact wpAny_bind fin

theorem dict_typeIs {X : Cx} {pins : List (Addr × Obj)} {σ : St} {H : Hp} {s : Shared} {a : Addr} {y : V} {o : Option V} (I : Inv X pins σ H s) (g : DGet H a y o) : s.TypeIs (.ref a) "dict" := by
  rcases g with ⟨kvs, k, e, _, _⟩ | ⟨kvs, k, b, e, _, _, _⟩
  · obtain ⟨_, _, vs, _, dd⟩ := dk_rd I.hok e
    exact dd.typeIs
  · obtain ⟨_, _, xs, _, dd⟩ := dt_rd I.hok e
    exact dd.typeIs
/-- d[y] -/
def tDGet (td ty : TE) : TE := fun σ H Q => td σ H fun x H1 => ty σ H1 fun y H2 => ∃ a v, x = .ref a ∧ DGet H2 a y (some v) ∧ Q v H2
/-- y in d, y not in d -/
def tDIn (ty td : TE) : TE := fun σ H Q => ty σ H fun y H1 => td σ H1 fun x H2 => ∃ a o, x = .ref a ∧ DGet H2 a y o ∧ Q (.bl o.isSome) H2
def tDNotIn (ty td : TE) : TE := fun σ H Q => ty σ H fun y H1 => td σ H1 fun x H2 => ∃ a o, x = .ref a ∧ DGet H2 a y o ∧ Q (.bl (!o.isSome)) H2
/-- d[y] = v -/
def sDPut (td ty tv : TE) : TS := fun D σ H => tv σ H fun v H1 => td σ H1 fun x H2 => ty σ H2 fun y H3 => ∃ a H4, x = .ref a ∧ DPut H3 a y v H4 ∧ D.nx σ H4
section
variable {X : Cx} {o i e value : Expr} {pos pos' tpos : Pos} {td ty tv : TE}
theorem pe_dget (hu : X.A.units + 1 < cLine) (ho : PE X o td) (hi : PE X i ty) (hs : NoSl i) : PE X (.Subscript o i pos) (tDGet td ty) := by
  intro pins s σ H Q I h
  refine subD_of PySem.F.slot_dict_getitem.lookup hs (thn (ho pins s σ H _ I h) fun u s1 ⟨x, H1, I1, rx, q1⟩ => thn (hi pins s1 σ H1 _ I1 q1) fun iv s2 ⟨y, H2, I2, ry, a, v, ex, g, q2⟩ => ?_)
  subst ex
  obtain rfl : u = Value.ref a := rx
  exact ⟨dict_typeIs I2 g, d_getItem hu I2 g ry fun w' s3 I3 rw' => ⟨v, H2, I3, rw', q2⟩⟩
theorem pc_din (hu : X.A.units + 1 < cLine) (hi : PE X i ty) (ho : PE X o td) : PC X .In i o (tDIn ty td) := by
  intro pins s σ H Q I h
  refine thn (hi pins s σ H _ I h) fun iv s1 ⟨y, H1, I1, ry, q1⟩ => thn (ho pins s1 σ H1 _ I1 q1) fun u s2 ⟨x, H2, I2, rx, a, ov, ex, g, q2⟩ => ?_
  subst ex
  obtain rfl : u = Value.ref a := rx
  exact d_in hu I2 g ry fun s3 I3 => ⟨.bl ov.isSome, H2, I3, rfl, q2⟩
theorem pc_dnotin (hu : X.A.units + 1 < cLine) (hi : PE X i ty) (ho : PE X o td) : PC X .NotIn i o (tDNotIn ty td) := by
  intro pins s σ H Q I h
  refine thn (hi pins s σ H _ I h) fun iv s1 ⟨y, H1, I1, ry, q1⟩ => thn (ho pins s1 σ H1 _ I1 q1) fun u s2 ⟨x, H2, I2, rx, a, ov, ex, g, q2⟩ => ?_
  subst ex
  obtain rfl : u = Value.ref a := rx
  exact d_notIn hu I2 g ry fun s3 I3 => ⟨.bl (!ov.isSome), H2, I3, rfl, q2⟩
theorem ps_dput (hu : X.A.units + 1 < cLine) (ho : PE X o td) (hi : PE X i ty) (hv : PE X value tv) (hs : swapsWith value (some (.Subscript o i pos')) pos.line X.env = pure false) :
    PS X (.Assign [.Subscript o i pos'] value pos) (sDPut td ty tv) := by
  intro pins s σ H D I h
  refine wpAny_Assign_Subscript (thn (hv pins s σ H _ I h) fun r s1 ⟨v, H1, I1, rv, q1⟩ => thn (ho pins s1 σ H1 _ I1 q1) fun u s2 ⟨x, H2, I2, rx, q2⟩ => thn (hi pins s2 σ H2 _ I2 q2) fun iv s3 ⟨y, H3, I3, ry, a, H4, ex, g, q3⟩ => ?_) hs
  subst ex
  obtain rfl : u = Value.ref a := rx
  exact d_setItem hu I3 g ry rv fun s4 I4 => ⟨σ, H4, I4, q3⟩
end


/-! ### displays -/
theorem dk_empty {P : Program} {w : World} {H : Hp} (h : Heap) (hb : sysModules < h.objs.size) : ObjOk P w H (h.push { cls := .type "dict", data := .dict #[] }) h.objs.size (.dK []) :=
  ⟨Nat.zero_le _, beq_eq_false_iff_ne.mpr (Ne.symm (Nat.ne_of_lt hb)), [], .nil, Heap.DictOf.new h⟩
/-- {}, to be a dict of the kind that is wanted -/
def tDNewK : TE := fun _ H Q => ∀ p, H p = none → Q (.ref p) (upd H p (.dK []))
section
variable {X : Cx} {pos : Pos}
theorem pe_dnewK : PE X (.Dict [] [] pos) tDNewK := fun pins s σ H Q I h =>
  wpAny_Dict_empty ⟨.ref s.heap.objs.size, _, I.laid (a := s.heap.objs.size) (o := .dK []) (t' := s.toks) (fun _ _ q => Heap.get?_push_of_some _ q) (Nat.le_refl _) (dk_empty s.heap I.big), rfl, h _ (I.hok.fresh (Nat.le_refl _))⟩
end

/-! ### methods -/
section
variable {X : Cx} {pins : List (Addr × Obj)} {σ : St} {H : Hp} {s : Shared} {a : Addr} {y d : V} {u r : Value} {o : Option V} {A : Around} {E : Value → Shared → Prop}
end

section
variable {X : Cx} {o e f : Expr} {apos cpos : Pos} {td ty tx : TE}
end

/-! ### dict(d): a copy -/
section
variable {X : Cx} {pins : List (Addr × Obj)} {σ : St} {H : Hp} {s : Shared} {a : Addr} {kvs : List (Key × V)} {A : Around} {E : Value → Shared → Prop}
end


section
variable {X : Cx} {pins : List (Addr × Obj)} {σ : St} {H : Hp} {s : Shared} {a : Addr} {y : V} {u : Value} {A : Around} {E : Value → Shared → Prop}
end
end L2

namespace L2
open PySem PySem.Spec PyProof.Rows
section
variable {X : Cx}
end
/-! ### a dict's pairs: keys that differ -/
section
variable {κ : Type} [DecidableEq κ]
end
end L2

namespace L2
open PySem PySem.Spec PyProof.Rows
/-! # a list comprehension: its block is a context of its own -/
/-- the cells that the block takes -/
def closF (cells : List (Str × Addr)) : List (Str × NameKind) → List (Str × Addr) → List (Str × Addr)
  | [], acc => acc
  | (n, k) :: r, acc => closF cells r (if k == .free then (n, (cells.lookup n).getD 0) :: acc else acc)
theorem clos_go {env : Env} : ∀ (l : List (Str × NameKind)) (acc : List (Str × Addr)), (∀ y ∈ l, y.2 = .free → ∃ c, env.cells.lookup y.1 = some c) →
    (forIn l acc fun (x : Str × NameKind) (r : List (Str × Addr)) => (if (x.2 == NameKind.free) = true then (do let c ← cellOf env x.1; pure (ForInStep.yield ((x.1, c) :: r))) else pure (ForInStep.yield r) : Sem _)) = pure (closF env.cells l acc)
  | [], acc, _ => rfl
  | (n, k) :: r, acc, h => by
    rw [List.forIn_cons]
    have ih := clos_go (env := env) r
    by_cases hk : (k == NameKind.free) = true
    · obtain ⟨c, hc⟩ := h (n, k) List.mem_cons_self (by simpa using hk)
      have e : cellOf env n = pure c := by unfold cellOf; rw [show env.cells.lookup n = some c from hc]
      dsimp only
      rw [if_pos hk, e]
      show (forIn r ((n, c) :: acc) _ : Sem _) = _
      rw [ih _ fun y hy => h y (List.mem_cons_of_mem _ hy)]
      show _ = pure (closF env.cells r (if (k == NameKind.free) = true then (n, (env.cells.lookup n).getD 0) :: acc else acc))
      rw [if_pos hk, show env.cells.lookup n = some c from hc]
      rfl
    · dsimp only
      rw [if_neg hk]
      show (forIn r acc _ : Sem _) = _
      rw [ih _ fun y hy => h y (List.mem_cons_of_mem _ hy)]
      show _ = pure (closF env.cells r (if (k == NameKind.free) = true then (n, (env.cells.lookup n).getD 0) :: acc else acc))
      rw [if_neg hk]
theorem clos_eq {scope : Scope} {env : Env} (h : ∀ y ∈ scope.names, y.2 = .free → ∃ c, env.cells.lookup y.1 = some c) : closureFor scope env = pure (closF env.cells scope.names []) := by
  have := clos_go (env := env) scope.names [] h
  show (forIn scope.names ([] : List (Str × Addr)) (fun (x : Str × NameKind) (r : List (Str × Addr)) => (if (x.2 == NameKind.free) = true then (do let c ← cellOf env x.1; pure (ForInStep.yield ((x.1, c) :: r))) else pure (ForInStep.yield r) : Sem _)) >>= fun z => pure z) = _
  rw [this]
  rfl
theorem clos_sub {cells : List (Str × Addr)} : ∀ (l : List (Str × NameKind)) (acc : List (Str × Addr)), (∀ y ∈ l, y.2 = .free → ∃ c, cells.lookup y.1 = some c) → (∀ x c, acc.lookup x = some c → cells.lookup x = some c) →
    ∀ x c, (closF cells l acc).lookup x = some c → cells.lookup x = some c
  | [], acc, _, h => h
  | (n, k) :: r, acc, hc, h => by
    refine clos_sub r _ (fun y hy => hc y (List.mem_cons_of_mem _ hy)) fun x c e => ?_
    by_cases hk : (k == NameKind.free) = true
    · rw [if_pos hk, List.lookup_cons] at e
      by_cases hx : (x == n) = true
      · rw [hx] at e
        have hxn : x = n := by simpa using hx
        obtain ⟨c', hc'⟩ := hc (n, k) List.mem_cons_self (by simpa using hk)
        have hc'' : cells.lookup n = some c' := hc'
        rw [hc''] at e
        rw [hxn, hc'']
        exact e
      · have hx' : (x == n) = false := by simpa using hx
        rw [hx'] at e
        exact h x c e
    · rw [if_neg hk] at e
      exact h x c e
theorem clos_acc {cells : List (Str × Addr)} {x : Str} : ∀ (l : List (Str × NameKind)) (acc : List (Str × Addr)), (∃ c, acc.lookup x = some c) → ∃ c, (closF cells l acc).lookup x = some c
  | [], acc, h => h
  | (n, k) :: r, acc, h => by
    refine clos_acc r _ ?_
    by_cases hk : (k == NameKind.free) = true
    · rw [if_pos hk, List.lookup_cons]
      by_cases hx : (x == n) = true
      · rw [hx]; exact ⟨_, rfl⟩
      · have hx' : (x == n) = false := by simpa using hx
        rw [hx']; exact h
    · rw [if_neg hk]; exact h
theorem clos_has {cells : List (Str × Addr)} {x : Str} : ∀ (l : List (Str × NameKind)) (acc : List (Str × Addr)), l.lookup x = some .free → ∃ c, (closF cells l acc).lookup x = some c
  | [], acc, h => by cases h
  | (n, k) :: r, acc, h => by
    rw [List.lookup_cons] at h
    by_cases hx : (x == n) = true
    · rw [hx] at h
      have hk : k = .free := Option.some.inj h
      subst hk
      refine clos_acc r _ ?_
      rw [if_pos (show (NameKind.free == NameKind.free) = true from rfl), List.lookup_cons, hx]
      exact ⟨_, rfl⟩
    · have hx' : (x == n) = false := by simpa using hx
      rw [hx'] at h
      exact clos_has r _ h
/-! names in the block -/
theorem relab_free {env : Env} {x : Str} : ∀ {names : List (Str × NameKind)}, (∀ y ∈ names, y.2 ≠ .cell) →
    (((names.map fun (n, k) => if (k == NameKind.free && env.scope.kind == .function && env.kindOf n == some .cell) then (n, NameKind.cell) else (n, k)).lookup x = some .cell ∨
     (names.map fun (n, k) => if (k == NameKind.free && env.scope.kind == .function && env.kindOf n == some .cell) then (n, NameKind.cell) else (n, k)).lookup x = some .free) ↔ names.lookup x = some .free)
  | [], _ => by simp
  | (n, k) :: r, h => by
    have ih := @relab_free env x r fun y hy => h y (List.mem_cons_of_mem _ hy)
    rw [List.map_cons]
    by_cases hx : (x == n) = true
    · have e : ∀ q : NameKind, List.lookup x ((n, q) :: (r.map fun (n, k) => if (k == NameKind.free && env.scope.kind == .function && env.kindOf n == some .cell) then (n, NameKind.cell) else (n, k))) = some q := fun q => by rw [List.lookup_cons, hx]
      have e' : List.lookup x ((n, k) :: r) = some k := by rw [List.lookup_cons, hx]
      rw [e']
      by_cases hc : (k == NameKind.free && env.scope.kind == .function && env.kindOf n == some .cell) = true
      · dsimp only
        rw [if_pos hc, e]
        have hk : k = .free := by
          simp only [Bool.and_eq_true, beq_iff_eq] at hc
          exact hc.1.1
        subst hk
        simp
      · dsimp only
        rw [if_neg hc, e]
        have hk := h (n, k) List.mem_cons_self
        constructor
        · rintro (z | z)
          · exact absurd (Option.some.inj z) hk
          · exact z
        · exact .inr
    · have hx' : (x == n) = false := by simpa using hx
      have e' : List.lookup x ((n, k) :: r) = List.lookup x r := by rw [List.lookup_cons, hx']
      rw [e', ← ih]
      dsimp only
      by_cases hc : (k == NameKind.free && env.scope.kind == .function && env.kindOf n == some .cell) = true
      · rw [if_pos hc, List.lookup_cons, hx']
      · rw [if_neg hc, List.lookup_cons, hx']
/-- N: the names of the def around; N': those of the block; src: which of them come from around -/
structure LcOk (osc : Scope) (N N' : List Str) (src : List (Option Nat)) (scope : Scope) : Prop where
  kind : scope.kind = .function
  nocell : ∀ y ∈ scope.names, y.2 ≠ .cell
  names : ∀ y ∈ scope.names, y.2 = .local → scope.names.lookup y.1 = some .local
  free : ∀ y ∈ scope.names, y.2 = .free → osc.names.lookup y.1 = some .cell ∨ osc.names.lookup y.1 = some .free
  nd : N'.Nodup
  len : src.length = N'.length
  map : ((N'.zip src).all fun p => match p.2 with | none => true | some j => N[j]? == some p.1 && scope.names.lookup p.1 == some .free) = true
/-- the block's names at its start -/
def inner (src : List (Option Nat)) (σ : St) : St := src.map fun o => o.bind fun j => (σ[j]?).join
def cxLc (X : Cx) (N : List Str) (scope : Scope) (cl : List (Str × Addr)) (C : Addr) (ex : List Addr) (s : Shared) (H : Hp) : Cx where
  prog := X.prog
  w := X.w
  K := X.K
  mg := X.mg
  base := X.base
  A := X.A
  N := N
  s₀ := s
  H₀ := H
  env := compEnvC scope cl C X.env
  outer := X.stack
  stack := X.stack
  ex := ex
  calm := X.calm
  fn := fun _ => false
  pn := []
  xe := fun _ _ => False
/-- the tests behind the for -/
def PIf (X : Cx) (ifs : List Expr) (t : TT) : Prop :=
  ∀ (pins : List (Addr × Obj)) (s : Shared) (σ : St) (H : Hp) (Q : Bool → Hp → Prop), Inv X pins σ H s → t σ H Q →
    wpAny (model X.prog X.w) X.A (forIn ifs true fun c r => if r = true then do let ok ← isTrue c X.env (eval c X.env); pure (ForInStep.yield ok) else pure (ForInStep.yield r)) (TP X pins σ Q) X.xe s
theorem pif_nil {X : Cx} : PIf X [] (fun _ H Q => Q true H) := fun _ _ _ H _ I h => wpAny_tests_nil ⟨H, I, h⟩
theorem pif_one {X : Cx} {c : Expr} {t : TT} (h : PT X c t) : PIf X [c] t := fun pins s σ H Q I q => wpAny_tests_one (h pins s σ H Q I q)
/-- the reading: W the invariant by the turn and a measure, D the list that grows -/
def LcW (J : It) (D : Addr) (g : TG) (tc : TT) (te : TE) (Q : VK) (σ0 : St) (H : Hp) : Prop :=
  ∃ W : Nat → Nat → St → Hp → Prop, (∃ m, W 0 m σ0 H) ∧ ∀ i m σ' H', W i m σ' H' →
    (J.stop i H' ∧ Q (.ref D) H') ∨ (J.go i H' ∧ ∃ N : St → Hp → Prop, (∀ σ2 H3, N σ2 H3 → ∃ m', m' < m ∧ W (i + 1) m' σ2 H3) ∧ ∀ x H2, J.yld i H' x H2 → g x σ' H2 fun σ2 H3 => tc σ2 H3 fun ok H4 =>
      if ok = true then te σ2 H4 fun y H5 => ∃ ys, H5 D = some (.lst ys) ∧ ys.length < sizeLine ∧ N σ2 (upd H5 D (.lst (ys ++ [y])))
      else N σ2 H4)
def tLc (src : List (Option Nat)) (wi : TI) (g : TG) (tc : TT) (te : TE) : TE := fun σ H Q => wi σ H fun J H1 => ∀ D, H1 D = none → LcW J D g tc te Q (inner src σ) (upd H1 D (.lst []))
section
variable {prog : Program} {w : World} {A : Around} {R : Result → Shared → Prop} {s : Shared}
abbrev NoX : Value → Shared → Prop := fun _ _ => False
theorem lc_loop {elt target iter : Expr} {ifs : List Expr} {scope : Scope} {pos : Pos} {it acc : Value} {env : Env} (I : Nat → Shared → Prop)
    (turn : ∀ n s, I n s → wpAny (model prog w) A (pyNext it) (fun r s₁ => match r with
      | none => R (.ok .next) s₁
      | some v => wpAny (model prog w) A (letOwnedTupleGo target it v) (fun _ s₂ => wpAny (model prog w) A (assign target env v) (fun _ s₃ =>
          wpAny (model prog w) A (forIn ifs true fun c r => if r = true then do let ok ← isTrue c env (eval c env); pure (ForInStep.yield ok) else pure (ForInStep.yield r)) (fun ok s₄ =>
            if ok = true then wpAny (model prog w) A (eval elt env) (fun x s₅ => wpAny (model prog w) A (call (.builtin "list.append") [acc, x]) (fun _ s₆ => ∃ m, m < n ∧ I m s₆) NoX s₅) NoX s₄
            else ∃ m, m < n ∧ I m s₄) NoX s₃) NoX s₂) NoX s₁) NoX s)
    (n : Nat) (h : I n s) : codeAny (model prog w) A (.compLoop (.ListComp elt [⟨target, iter, ifs, 0⟩] scope pos) 0 it acc env) R s := by
  refine codeAny_loop rfl I (fun n s hI => ?_) n h
  show wpAny _ A ((compTurn (.ListComp elt [⟨target, iter, ifs, 0⟩] scope pos) 0 it acc env).onRaise (fun x => do noteFrame x env; theTreesLotGoes x)) _ _ s
  refine wpAny_noted (wpAny_mono (E := NoX) ?_ (fun _ _ q => q) fun _ _ z => z.elim)
  rw [compTurn_list]
  refine wpAny_bind (wpAny_standAt (wpAny_bind (thn (turn n s hI) fun r s₁ h₁ => ?_)))
  cases r with
  | none => exact wpAny_pure h₁
  | some v =>
    refine wpAny_bind (thn h₁ fun _ s₂ h₂ => wpAny_bind (thn h₂ fun _ s₃ h₃ => wpAny_bind (thn h₃ fun ok s₄ h₄ => ?_)))
    cases ok with
    | false =>
      rw [if_neg Bool.false_ne_true] at h₄
      dsimp only
      rw [if_neg Bool.false_ne_true]
      exact wpAny_pure ⟨rfl, h₄⟩
    | true =>
      rw [if_pos rfl] at h₄
      dsimp only
      rw [if_pos rfl]
      exact wpAny_bind (wpAny_bind (thn h₄ fun x s₅ h₅ => wpAny_bind (thn h₅ fun _ s₆ h₆ => wpAny_pure (wpAny_pure ⟨rfl, h₆⟩))))
end
section
variable {X : Cx} {target iter elt : Expr} {ifs : List Expr} {scope : Scope} {pos : Pos} {N' : List Str} {src : List (Option Nat)} {wi : TI} {g : TG} {tc : TT} {te : TE}
theorem lc_core {pins : List (Addr × Obj)} {s : Shared} {σ : St} {H : Hp} {Q : VK} {use : Option (Value → Sem Unit)} {Fin : Value → Shared → Prop} {p : Pos} (hcalm : X.calm = true) (hk : LcOk X.env.scope X.N N' src scope) (hi : PI X target iter wi)
    (hin : ∀ cl C ex s H, PG (cxLc X N' scope cl C ex s H) target g ∧ PIf (cxLc X N' scope cl C ex s H) ifs tc ∧ PE (cxLc X N' scope cl C ex s H) elt te)
    (hfs : ∀ x, foldedSetIterable iter X.env x = pure x) (I : Inv X pins σ H s) (hw : tLc src wi g tc te σ H Q)
    (hfin : ∀ D C s4 H3 m, Inv X pins σ H3 s4 → FpOk X pins H3 C → s4.heap.Ns C m → Q (.ref D) H3 → compPost (model X.prog X.w) X.A X.xe use Fin (.ref D) C (.ok .next) s4) :
    wpAny (model X.prog X.w) X.A (comprehension (.ListComp elt [⟨target, iter, ifs, 0⟩] scope pos) scope X.env p (newList []) false (eval iter X.env) use) Fin X.xe s := by
  have hcs : ∀ y ∈ scope.names, y.2 = .free → ∃ c, X.env.cells.lookup y.1 = some c := fun y hy e => I.ok.has y.1 (hk.free y hy e)
  refine wpAny_comprehension_free (use := use) (cl := closF X.env.cells scope.names []) rfl hfs (clos_eq hcs) hk.kind hk.names ?_
  refine thn (hi pins s σ H _ I hw) fun v s1 h1 => thn h1 fun itv s2 h2 => ?_
  obtain ⟨it, fp, tn, J, H2, e, I2, T, st2, f2, hD⟩ := h2
  subst e
  generalize hcl : closF X.env.cells scope.names [] = cl
  have sub : ∀ x c, cl.lookup x = some c → X.env.cells.lookup x = some c := by rw [← hcl]; exact clos_sub scope.names [] hcs fun x c z => by cases z
  have hasc : ∀ x, scope.names.lookup x = some .free → ∃ c, cl.lookup x = some c := fun x z => by rw [← hcl]; exact clos_has scope.names [] z
  have hDn : H2 s2.heap.objs.size = none := I2.hok.fresh (Nat.le_refl _)
  obtain ⟨W, ⟨m0, w0⟩, turn⟩ := hD s2.heap.objs.size hDn
  refine wpAny_newObj_type (wpAny_newFunctionEnv hk.nocell (by intro y hy; simp at hy) (fun h₁ hns₁ hsb₁ => ?_) hk.kind)
  dsimp only at hns₁ hsb₁ ⊢
  generalize hH2 : s2.heap.push { cls := .type "list", dict := none, data := .seq ([] : List Value).toArray } = G2 at hns₁ hsb₁ ⊢
  have hC : G2.objs.size = s2.heap.objs.size + 1 := by rw [← hH2, Heap.size_push]
  have hDC : s2.heap.objs.size ≠ G2.objs.size := by rw [hC]; exact Nat.ne_of_lt (Nat.lt_succ_self _)
  have hCle : s2.heap.objs.size ≤ G2.objs.size := by rw [hC]; exact Nat.le_succ _
  have below : ∀ b, b < s2.heap.objs.size → b ≠ G2.objs.size ∧ b ≠ s2.heap.objs.size := fun b hb => ⟨by rw [hC]; exact Nat.ne_of_lt (Nat.lt_succ_of_lt hb), Nat.ne_of_lt hb⟩
  have old : ∀ b o, s2.heap.get? b = some o → h₁.get? b = some o := fun b o e => hsb₁.extBut b o (below b (Heap.lt_size e)).1 (Heap.get?_push_of_some _ (hH2 ▸ Heap.get?_push_of_some _ e))
  have hacc : h₁.get? s2.heap.objs.size = some { cls := .type "list", dict := none, data := .seq ([] : List Value).toArray } := hsb₁.extBut _ _ hDC (Heap.get?_push_of_some _ (hH2 ▸ Heap.get?_push_size _ rfl))
  obtain ⟨hg, hif, he⟩ := hin cl G2.objs.size fp s2 H2
  have fplt : ∀ b ∈ fp, b < s2.heap.objs.size := fun b hb => by
    obtain ⟨o, e, _⟩ := T.obj 0 _ st2 b hb
    exact Heap.lt_size e
  have ok' : (cxLc X N' scope cl G2.objs.size fp s2 H2).Ok := by
    refine ⟨I2.ok.mod, hk.kind, I2.ok.glob, I2.ok.blt, hCle, fun x y c e1 e2 => I2.ok.inj x y c (sub x c e1) (sub y c e2), fun x hx => hasc x ((relab_free hk.nocell).mp hx), (fun x c z => by cases z), I2.ok.hd, I2.ok.frames, .inl rfl,
      fun b hb => ⟨(below b (fplt b hb)).1, fun x c e => (f2 b hb).2.2.2.2.1 x c (sub x c e)⟩, I2.bs, Nat.le_trans I2.ok.bsz I2.sz, fun b o e hb => ?_, fun b hb hz => ?_, I2.stack, I2.stkFree⟩
    · rcases (f2 b hb).2.2.2.1 with z | z
      · exact I2.ok.noex b o e z
      · exact absurd (Nat.lt_of_lt_of_le (Heap.lt_size e) (Nat.le_trans I2.ok.bsz z)) (Nat.lt_irrefl _)
    · rcases List.mem_cons.mp (I2.stkSub b hz) with z | z
      · exact (f2 b hb).2.1 z
      · exact (f2 b hb).2.2.1 z
  have I3 : Inv (cxLc X N' scope cl G2.objs.size fp s2 H2) [] (inner src σ) (upd H2 s2.heap.objs.size (.lst [])) { s2 with heap := h₁, toks := s2.toks + ([] : List (Str × Value)).length } := by
    refine ⟨ok', rfl, I2.bare, Un.laid old (Nat.le_refl _) hDn, ⟨_, hns₁, fun i x v e1 e2 e3 => ?_⟩, fun x c e => ?_, ?_, fun x c e => ?_, (fun p hp => by cases hp), I2.hok.laid old (Nat.le_refl _) ⟨Nat.zero_le _, [], _, .nil, hacc⟩, ?_⟩
    · -- a name that comes from around
      unfold inner at e2
      rw [List.getElem?_map] at e2
      cases hs : src[i]? with
      | none => rw [hs] at e2; cases e2
      | some o =>
        rw [hs] at e2
        cases o with
        | none => cases e2
        | some j =>
          have e2' : (σ[j]?).join = some v := Option.some.inj e2
          have hσ : σ[j]? = some (some v) := by
            cases q : σ[j]? with
            | none => rw [q] at e2'; cases e2'
            | some z => rw [q] at e2'; exact congrArg some e2'
          have hz : (x, some j) ∈ N'.zip src := by
            have e1' : N'[i]? = some x := e1
            have : (N'.zip src)[i]? = some (x, some j) := by rw [List.getElem?_zip_eq_some]; exact ⟨e1', hs⟩
            exact List.mem_of_getElem? this
          have hm := List.all_eq_true.mp hk.map _ hz
          simp only [Bool.and_eq_true, beq_iff_eq] at hm
          obtain ⟨hN, hfr⟩ := hm
          obtain ⟨m, hn, hl⟩ := I2.loc
          have hkind := hk.free (x, .free) (PySem.mem_of_lookup hfr) rfl
          obtain ⟨u, r, l⟩ := hl j x v hN hσ (hkind.elim (fun z => .inr (.inl z)) fun z => .inr (.inr z))
          refine ⟨u, r, ?_⟩
          rcases l with ⟨l, _⟩ | ⟨l, c, hc, z⟩
          · rcases hkind with q | q
            · have q' : X.env.kindOf x = some .cell := q
              rw [q'] at l; cases l
            · have q' : X.env.kindOf x = some .free := q
              rw [q'] at l; cases l
          · obtain ⟨c', hc'⟩ := hasc x hfr
            have ec := sub x c' hc'
            rw [hc] at ec
            cases ec
            refine .inr ⟨(relab_free hk.nocell).mpr hfr, c, hc', ?_⟩
            obtain ⟨o, ho, hd⟩ := z
            exact ⟨o, old c o ho, hd⟩
    · obtain ⟨v, o, ho, hd⟩ := I2.cell x c (sub x c e)
      exact ⟨v, o, old c o ho, hd⟩
    · show upd H2 s2.heap.objs.size (.lst []) G2.objs.size = none
      rw [upd_ne (Ne.symm hDC)]
      exact I2.hok.fresh hCle
    · obtain ⟨v, q⟩ := I2.cell x c (sub x c e)
      rw [upd_ne (Nat.ne_of_lt q.lt)]
      exact I2.freeC x c (sub x c e)
    · show (inner src σ).length = N'.length
      unfold inner
      rw [List.length_map]
      exact hk.len
  have stat : ∀ {H' : Hp}, (∀ b ∈ fp, H' b = none) → ∀ b ∈ fp, FpOk (cxLc X N' scope cl G2.objs.size fp s2 H2) [] H' b := fun hn b hb =>
    ⟨hn b hb, (below b (fplt b hb)).1, ok'.exfs b hb, .inl hb, (ok'.exf b hb).2, fun p hp => by cases hp⟩
  have loop : codeAny (model X.prog X.w) X.A (.compLoop (.ListComp elt [⟨target, iter, ifs, 0⟩] scope pos) 0 (.ref it) (.ref s2.heap.objs.size) (compEnvC scope cl G2.objs.size X.env))
      (compPost (model X.prog X.w) X.A X.xe use Fin (.ref s2.heap.objs.size) G2.objs.size) { s2 with heap := h₁, toks := s2.toks + ([] : List (Str × Value)).length } := by
    refine lc_loop (fun n s' => ∃ i σ' H', Inv (cxLc X N' scope cl G2.objs.size fp s2 H2) [] σ' H' s' ∧ tn i s'.heap ∧ (∀ b ∈ fp, H' b = none) ∧ W i n σ' H') ?_ m0
      ⟨0, _, _, I3, T.keep _ _ _ st2 fun b _ o e => old b o e, fun b hb => ?_, w0⟩
    rotate_left
    · rw [upd_ne (below b (fplt b hb)).2]; exact (f2 b hb).1
    rintro n s3 ⟨i, σ3, H3, J3, st3, fr3, w3⟩
    rcases turn i n σ3 H3 w3 with ⟨stop, q⟩ | ⟨go, N, hN, step⟩
    · refine thn (T.done (cxLc X N' scope cl G2.objs.size fp s2 H2) rfl rfl rfl hcalm i [] s3 σ3 H3 NoX J3 (stat fr3) st3 stop) fun r s4 ⟨hr, J4⟩ => ?_
      subst hr
      obtain ⟨m, hn, _⟩ := J4.loc
      refine hfin _ _ s4 H3 m ?_ (I2.fpOk hCle J4.free) hn q
      refine I2.call' (ch := fp) J4.os J4.base J4.hok J4.bare fun b hb => ?_
      obtain ⟨a0, a1, a2, a3, a4, a5⟩ := f2 b hb
      exact ⟨a3, a1, a4, a5⟩
    · refine thn (T.item (cxLc X N' scope cl G2.objs.size fp s2 H2) rfl rfl rfl hcalm i [] s3 σ3 H3 NoX J3 (stat fr3) st3 go) fun r s4 ⟨u, hr, h4⟩ => ?_
      subst hr
      refine thn h4 fun _ s5 ⟨x, H5, J5, r5, y5, st5, fr5⟩ => ?_
      have J5' := J5.pinned (stat fr5) (T.obj _ _ st5)
      refine thn (hg _ s5 σ3 H5 x u _ J5' r5 (step x H5 y5)) fun _ s6 ⟨σ6, H6, J6, q6⟩ => ?_
      refine thn (hif _ s6 σ6 H6 _ J6 q6) fun ok s7 ⟨H7, J7, q7⟩ => ?_
      have again : ∀ {σ8 : St} {H8 : Hp} {s8 : Shared}, Inv (cxLc X N' scope cl G2.objs.size fp s2 H2) ([] ++ pinsAt fp s5.heap) σ8 H8 s8 → N σ8 H8 →
          ∃ m, m < n ∧ ∃ i σ' H', Inv (cxLc X N' scope cl G2.objs.size fp s2 H2) [] σ' H' s8 ∧ tn i s8.heap ∧ (∀ b ∈ fp, H' b = none) ∧ W i m σ' H' := fun {σ8 H8 s8} J8 n8 => by
        obtain ⟨m', hm, w8⟩ := hN _ _ n8
        refine ⟨m', hm, i + 1, σ8, H8, J8.unpinned, T.keep _ _ _ st5 fun b hb o e => (J8.pin (b, o) (List.mem_append_right _ (List.mem_append_right _ (mem_pinsAt hb e)))).1, fun b hb => ?_, w8⟩
        obtain ⟨o, e, d⟩ := T.obj _ _ st5 b hb
        exact (J8.pin (b, o) (List.mem_append_right _ (List.mem_append_right _ (mem_pinsAt hb e)))).2.1
      cases ok with
      | false =>
        rw [if_neg Bool.false_ne_true] at q7 ⊢
        exact again J7 q7
      | true =>
        rw [if_pos rfl] at q7 ⊢
        refine thn (he _ s7 σ6 H7 _ J7 q7) fun v8 s8 ⟨y, H8, J8, r8, ys, hys, hlen, q8⟩ => ?_
        refine thn (mt_append _ s8 σ6 H8 (.ref s2.heap.objs.size) [y] _ [v8] (fun _ H9 => N σ6 H9) J8 rfl (.cons r8 .nil) ⟨_, ys, y, rfl, rfl, hys, hlen, q8⟩) fun _ s9 ⟨_, H9, J9, _, q9⟩ => ?_
        exact again J9 q9
  exact codeAny_compStart_list loop (T.self _ 0 _ _ _ (T.keep _ _ _ st2 fun b _ o e => old b o e) loop)
theorem pe_lc (hcalm : X.calm = true) (hk : LcOk X.env.scope X.N N' src scope) (hi : PI X target iter wi)
    (hin : ∀ cl C ex s H, PG (cxLc X N' scope cl C ex s H) target g ∧ PIf (cxLc X N' scope cl C ex s H) ifs tc ∧ PE (cxLc X N' scope cl C ex s H) elt te)
    (hfs : ∀ x, foldedSetIterable iter X.env x = pure x := by intro _; rfl) : PE X (.ListComp elt [⟨target, iter, ifs, 0⟩] scope pos) (tLc src wi g tc te) := by
  intro pins s σ H Q I hw
  rw [eval_ListComp]
  refine lc_core hcalm hk hi hin hfs I hw fun D C s4 H3 m I4 fp hn q => ⟨m, hn, fun h' hs => ⟨.ref D, H3, ?_, rfl, q⟩⟩
  obtain ⟨a0, a1, a2, a3, a4, a5⟩ := fp
  exact I4.turned (t' := s4.toks) (fun b o hb e => hs.extBut b o hb e) a0 a1 a3 a4 a5
/-- name = [.. for ..]: the store stands within -/
theorem ps_setlc {i : Nat} {x : Str} {pos' spos : Pos} (hcalm : X.calm = true) (hN : X.N.Nodup) (hx' : X.N[i]? = some x) (hl : X.env.scope.names.lookup x = some .local) (hk : LcOk X.env.scope X.N N' src scope) (hi : PI X target iter wi)
    (hin : ∀ cl C ex s H, PG (cxLc X N' scope cl C ex s H) target g ∧ PIf (cxLc X N' scope cl C ex s H) ifs tc ∧ PE (cxLc X N' scope cl C ex s H) elt te)
    (hsw : swapsWith (.ListComp elt [⟨target, iter, ifs, 0⟩] scope pos) (some (.Name x pos')) spos.line X.env = pure true := by rfl)
    (hfs : ∀ x, foldedSetIterable iter X.env x = pure x := by intro _; rfl) : PS X (.Assign [.Name x pos'] (.ListComp elt [⟨target, iter, ifs, 0⟩] scope pos) spos) (tAsg (tLc src wi g tc te) (gName i)) := by
  intro pins s σ H D I hw
  rw [exec_Assign_Name_used _ _ _ _ hsw]
  refine wpAny_bind (wpAny_standAt (wpAny_bind ?_))
  refine wpAny_bind (thn (lc_core (p := _) (use := some (assign (.Name x pos') X.env)) (Fin := fun _ s' => SP X pins D .next s') hcalm hk hi hin hfs I hw fun B C s4 H3 m I4 fp hn q => ?_) fun _ s' hq => wpAny_pure (wpAny_pure hq))
  obtain ⟨a0, a1, a2, a3, a4, a5⟩ := id fp
  show wpAny _ X.A (assign (.Name x pos') X.env (.ref B)) _ _ _
  refine wpAny_assign_Name (store_ok2 I4 hN hx' (.inl hl) (v := .ref B) rfl (fun s5 I5 hch => ?_) (.inr hl))
  obtain ⟨c, sb, hc⟩ := hch
  have hCc : C ≠ c := by
    rcases hc with z | z
    · rw [z]; exact a1
    · exact fun w => a4 x c z w.symm
  refine ⟨m, hn.sameBut sb hCc, fun h' hs => ⟨_, H3, ?_, q⟩⟩
  exact I5.turned (t' := s5.toks) (fun b o hb e => hs.extBut b o hb e) a0 a1 a3 a4 a5
end
/-! # rules whose reading names the fragment, for a block: K is X.K -/
section
variable {X : Cx} {pos : Pos}
theorem pg_tupK (K : PySem.W.Frag) (hK : X.K = K) {es : List Expr} {k : Nat} {t : TGs} {n : Nat} (hc : X.calm = true) (h : PGs X es t)
    (hn : (assignEach es X.env).length = n := by rfl) (hst : (assignEach es X.env).findIdx? (·.1) = none := by rfl) : PG X (.Tuple es k pos) (gTup K n t) := by
  subst hK
  exact pg_tup hc h hn hst
theorem ix_tupK (K : PySem.W.Frag) (hK : X.K = K) : IxR X (rIxT K) := by
  subst hK
  exact ix_tup
theorem in_seqK (K : PySem.W.Frag) (hK : X.K = K) : OpR X (compareOp .In) (rIn K false) := by
  subst hK
  exact op_in_seq
theorem len_seqK (K : PySem.W.Frag) (hK : X.K = K) : CallR X (.builtin "len") (fun xs H Q => ∃ p ys, xs = [.ref p] ∧ (SqL K H p ys ∨ SqT K H p ys) ∧ Q (.int ys.length) H) := by
  subst hK
  exact call_len_seq
end
/-! # the forms one uses -/
theorem lc_by {J : It} {D : Addr} {g : TG} {tc : TT} {te : TE} {σ0 : St} {H : Hp} {Q : VK} (n : Nat) (Pv : Nat → St → Hp → Prop) (h0 : Pv 0 σ0 H) (hgo : ∀ i σ H, i < n → Pv i σ H → J.go i H) (hst : ∀ σ H, Pv n σ H → J.stop n H)
    (hs : ∀ i x σ H H2, i < n → Pv i σ H → J.yld i H x H2 → g x σ H2 fun σ2 H3 => tc σ2 H3 fun ok H4 =>
      if ok = true then te σ2 H4 fun y H5 => ∃ ys, H5 D = some (.lst ys) ∧ ys.length < sizeLine ∧ Pv (i + 1) σ2 (upd H5 D (.lst (ys ++ [y]))) else Pv (i + 1) σ2 H4)
    (hd : ∀ σ H, Pv n σ H → Q (.ref D) H) : LcW J D g tc te Q σ0 H := by
  refine ⟨fun i m σ H => m = n - i ∧ i ≤ n ∧ Pv i σ H, ⟨n, by simp, Nat.zero_le _, h0⟩, ?_⟩
  rintro i m σ H ⟨rfl, hi, p⟩
  by_cases hlt : i < n
  · exact .inr ⟨hgo i σ H hlt p, Pv (i + 1), fun σ' H' p' => ⟨n - (i + 1), by omega, rfl, hlt, p'⟩, fun x H2 y => hs i x σ H H2 hlt p y⟩
  · have e : i = n := by omega
    subst e
    exact .inl ⟨hst σ H p, hd σ H p⟩
/-- over a tuple -/
theorem lc_tup {K : PySem.W.Frag} {a : Addr} {xs : List V} {D : Addr} {g : TG} {tc : TT} {te : TE} {σ0 : St} {H : Hp} {Q : VK} (Pv : Nat → St → Hp → Prop) (h0 : Pv 0 σ0 H) (hl : ∀ i σ H, i ≤ xs.length → Pv i σ H → SqT K H a xs)
    (hs : ∀ i x σ H, xs[i]? = some x → Pv i σ H → g x σ H fun σ2 H3 => tc σ2 H3 fun ok H4 =>
      if ok = true then te σ2 H4 fun y H5 => ∃ ys, H5 D = some (.lst ys) ∧ ys.length < sizeLine ∧ Pv (i + 1) σ2 (upd H5 D (.lst (ys ++ [y]))) else Pv (i + 1) σ2 H4)
    (hd : ∀ σ H, Pv xs.length σ H → Q (.ref D) H) : LcW (Itt K a) D g tc te Q σ0 H := by
  refine lc_by xs.length Pv h0 (fun i σ H hi p => ⟨xs, xs[i], hl i σ H (Nat.le_of_lt hi) p, by simp [hi]⟩) (fun σ H p => ⟨xs, hl _ σ H (Nat.le_refl _) p, Nat.le_refl _⟩) (fun i x σ H H2 hi p y => ?_) hd
  obtain ⟨rfl, y⟩ := y
  exact hs i x σ _ (y xs (hl i σ _ (Nat.le_of_lt hi) p)) p
/-- over a list -/
theorem lc_list {K : PySem.W.Frag} {a : Addr} {xs : List V} {D : Addr} {g : TG} {tc : TT} {te : TE} {σ0 : St} {H : Hp} {Q : VK} (Pv : Nat → St → Hp → Prop) (h0 : Pv 0 σ0 H) (hl : ∀ i σ H, i ≤ xs.length → Pv i σ H → SqL K H a xs)
    (hs : ∀ i x σ H, xs[i]? = some x → Pv i σ H → g x σ H fun σ2 H3 => tc σ2 H3 fun ok H4 =>
      if ok = true then te σ2 H4 fun y H5 => ∃ ys, H5 D = some (.lst ys) ∧ ys.length < sizeLine ∧ Pv (i + 1) σ2 (upd H5 D (.lst (ys ++ [y]))) else Pv (i + 1) σ2 H4)
    (hd : ∀ σ H, Pv xs.length σ H → Q (.ref D) H) : LcW (Itl K a) D g tc te Q σ0 H := by
  refine lc_by xs.length Pv h0 (fun i σ H hi p => ⟨xs, xs[i], hl i σ H (Nat.le_of_lt hi) p, by simp [hi]⟩) (fun σ H p => ⟨xs, hl _ σ H (Nat.le_refl _) p, Nat.le_refl _⟩) (fun i x σ H H2 hi p y => ?_) hd
  obtain ⟨rfl, y⟩ := y
  exact hs i x σ _ (y xs (hl i σ _ (Nat.le_of_lt hi) p)) p
/-- over a range -/
theorem lc_range {lo : Int} {n : Nat} {D : Addr} {g : TG} {tc : TT} {te : TE} {σ0 : St} {H : Hp} {Q : VK} (Pv : Nat → St → Hp → Prop) (h0 : Pv 0 σ0 H)
    (hs : ∀ (i : Nat) σ H, i < n → Pv i σ H → g (.int (lo + i)) σ H fun σ2 H3 => tc σ2 H3 fun ok H4 =>
      if ok = true then te σ2 H4 fun y H5 => ∃ ys, H5 D = some (.lst ys) ∧ ys.length < sizeLine ∧ Pv (i + 1) σ2 (upd H5 D (.lst (ys ++ [y]))) else Pv (i + 1) σ2 H4)
    (hd : ∀ σ H, Pv n σ H → Q (.ref D) H) : LcW (Itr lo n) D g tc te Q σ0 H := by
  refine lc_by n Pv h0 (fun i σ H hi p => hi) (fun σ H p => Nat.le_refl _) (fun i x σ H H2 hi p y => ?_) hd
  obtain ⟨rfl, rfl⟩ := y
  exact hs i σ _ hi p
end L2

namespace L2
open PySem PySem.Spec PyProof.Rows
/-! # data, compared -/
mutual
inductive RD (H : Hp) : V → PyData → Prop
  | non : RD H .non .none
  | bl (b : Bool) : RD H (.bl b) (.bool b)
  | int (i : Int) : RD H (.int i) (.int i)
  | str (x : Str) : RD H (.str x) (.str x)
  | tup {a : Addr} {xs : List V} {ds : List PyData} : H a = some (.tup xs) → RDs H xs ds → RD H (.ref a) (.tuple ds)
  | lst {a : Addr} {xs : List V} {ds : List PyData} : H a = some (.lst xs) → RDs H xs ds → RD H (.ref a) (.list ds)
inductive RDs (H : Hp) : List V → List PyData → Prop
  | nil : RDs H [] []
  | cons {x : V} {xs : List V} {d : PyData} {ds : List PyData} : RD H x d → RDs H xs ds → RDs H (x :: xs) (d :: ds)
end
section
variable {P : Program} {w : World} {H : Hp} {h : Heap}
mutual
theorem RD.reads (ok : HOk P w H h) : ∀ {v : V} {d : PyData} {u : Value}, RD H v d → RelV v u → ∃ as, Reads h u d as
  | _, _, _, .non, r => by cases r; exact ⟨_, .none⟩
  | _, _, _, .bl b, r => by cases r; exact ⟨_, .bool b⟩
  | _, _, _, .int i, r => by obtain ⟨t, rfl⟩ := r; exact ⟨_, .int i t⟩
  | _, _, _, .str x, r => by obtain ⟨t, rfl⟩ := r; exact ⟨_, .str x t⟩
  | _, _, _, .tup e rs, r => by
    cases r
    obtain ⟨_, its, rv, o, e1, e2, n, e3⟩ := ok _ _ e
    obtain ⟨as, q⟩ := RDs.reads ok rs rv
    exact ⟨_, .tuple e1 e2 e3 (by simpa using q)⟩
  | _, _, _, .lst e rs, r => by
    cases r
    obtain ⟨_, its, n, rv, e1⟩ := ok _ _ e
    obtain ⟨as, q⟩ := RDs.reads ok rs rv
    exact ⟨_, .list e1 rfl rfl (by simpa using q)⟩
theorem RDs.reads (ok : HOk P w H h) : ∀ {vs : List V} {ds : List PyData} {us : List Value}, RDs H vs ds → Vals vs us → ∃ as, ReadsAll h us ds as
  | _, _, _, .nil, .nil => ⟨_, .nil⟩
  | _, _, _, .cons r rs, .cons q qs => by
    obtain ⟨as, z⟩ := RD.reads ok r q
    obtain ⟨bs, zs⟩ := RDs.reads ok rs qs
    exact ⟨_, .cons z zs⟩
end
end
section
variable {X : Cx}
theorem op_neD (hu : X.A.units + 64 < cLine) : OpR X (compareOp .NotEq) (fun x y H Q => ∃ d e, RD H x d ∧ RD H y e ∧ SeqAt.shaped d = true ∧ SeqAt.shaped e = true ∧ Q (.bl (!PyData.eqv d e)) H) := by
  intro pins s σ H x y v u Q I rx ry h
  obtain ⟨d, e, hd, he, sd, se, q⟩ := h
  obtain ⟨as, r1⟩ := hd.reads I.hok rx
  obtain ⟨bs, r2⟩ := he.reads I.hok ry
  exact SeqAt.compareNe_shaped r1 r2 sd se hu ⟨.bl _, H, I, rfl, q⟩
theorem pe_type {x : Str} {T : String} {pos : Pos} (hg : Gl X x) (hm : X.mg x = none) (hv : bootBuiltins x = some (.type T)) (hn : x ≠ "__name__" := by decide) (hd : (x == ("__debug__" : Str)) = false := by decide) : PE X (.Name x pos) (tC (.ty T)) :=
  pe_bltn (v := .ty T) hg hm hv rfl hn hd
/-! # isinstance -/
theorem call_isinst : CallR X (.builtin "isinstance") (fun xs H Q => ∃ x T t b, xs = [x, .ty T] ∧ TyOf X.K H x t ∧ PySem.W.kitOne X.K t (.type T) = some b ∧ Q (.bl b) H) := by
  intro pins s σ H xs us Q I r h
  obtain ⟨x, T, t, b, rfl, ty, k, q⟩ := h
  obtain ⟨u, v, rfl, ru, rv⟩ := r.two
  obtain rfl : v = Value.type T := rv
  exact isinst_ok I ru ty k fun tk => ⟨.bl b, H, I.tok tk, rfl, q⟩
/-! # sets of ints -/
def SetO (P : Program) (w : World) (a : Addr) (S : Int → Bool) (n : Nat) : HO := .ext fun h => CW.SetI P w h a S n
/-- the members, each once -/
def ddp (ns : List Int) : List Int := firstMet (fun i => ns.getD i 0) ns.length
theorem ddp_mem (ns : List Int) (k : Int) : (ddp ns).any (· == k) = ns.any (· == k) := by
  unfold ddp
  rw [firstMet_any]
  congr 1
  refine List.ext_getElem? fun i => ?_
  by_cases h : i < ns.length
  · simp [h, List.getD_eq_getElem?_getD]
  · rw [List.getElem?_eq_none (by simpa using h), List.getElem?_eq_none (by omega)]
theorem ddp_len (ns : List Int) : (ddp ns).length ≤ ns.length := firstMet_length_le _ _
theorem firstMet_nodup (val : Nat → Int) : ∀ i, (firstMet val i).Nodup
  | 0 => by rw [firstMet_zero]; exact List.nodup_nil
  | i + 1 => by
    rw [firstMet_succ]
    unfold step_dedup
    split
    · exact firstMet_nodup val i
    · rename_i h
      rw [List.nodup_append]
      refine ⟨firstMet_nodup val i, by simp, ?_⟩
      intro a ha b hb e
      rw [List.mem_singleton] at hb
      subst hb e
      exact h (List.any_eq_true.mpr ⟨_, ha, by simp⟩)
theorem ddp_nodup (ns : List Int) : (ddp ns).Nodup := firstMet_nodup _ _
theorem call_setI (hc : X.calm = true) : CallR X (.type "set") (fun xs H Q => ∃ p ns, xs = [.ref p] ∧ SqL X.K H p (ns.map V.int) ∧ ns.length < 4000 ∧
    ∀ l, H l = none → Q (.ref l) (upd H l (SetO X.prog X.w l (fun k => ns.any (· == k)) (ddp ns).length))) := by
  intro pins s σ H xs us Q I r h
  obtain ⟨p, ns, rfl, hq, hz, q⟩ := h
  obtain ⟨u, rfl, rx⟩ := vals1 r
  cases rx
  obtain ⟨its, rv, pl, _⟩ := I.list hq
  have hi : IntsAre its ns := intsAre_of rv
  have hl := hi.length
  refine CW.call_set_I (items := its.toArray) (ns := ns) (I.ok.hd hc) pl.isList (by simpa using hi) (by simp; unfold scanBound; omega) fun h' tk hS hk => ?_
  have hk' : ∀ b o, s.heap.get? b = some o → h'.get? b = some o := fun b o e => hk b o (Heap.lt_size e) e
  have hS' : CW.SetI X.prog X.w h' s.heap.objs.size (fun k => ns.any (· == k)) (ddp ns).length := hS.congr (fun k => by
    have := ddp_mem ns k
    unfold ddp at this
    rw [← hl] at this
    simpa using this) (by unfold ddp; simp [hl])
  refine ⟨.ref s.heap.objs.size, _, I.laid (t' := tk) (o := SetO X.prog X.w s.heap.objs.size (fun k => ns.any (· == k)) (ddp ns).length) hk' (Nat.le_refl _) ⟨hS', ?_, fun h1 h2 a b => a.at b⟩, rfl, q _ I.fresh⟩
  obtain ⟨_, _, _, ⟨o, ho, _⟩, _⟩ := hS'
  exact ⟨o, ho⟩
theorem call_sortedI (hc : X.calm = true) : CallR X (.builtin "sorted") (fun xs H Q => ∃ p S n, xs = [.ref p] ∧ H p = some (SetO X.prog X.w p S n) ∧ n < 64 ∧
    ∀ l (ns : List Int), H l = none → ns.Pairwise (· ≤ ·) → ns.length = n → (∀ k, k ∈ ns ↔ S k = true) → Q (.ref l) (upd H l (.lst (ns.map V.int)))) := by
  intro pins s σ H xs us Q I r h
  obtain ⟨p, S, n, rfl, hp, h64, q⟩ := h
  obtain ⟨u, rfl, rx⟩ := vals1 r
  cases rx
  obtain ⟨hS, _, _⟩ : ObjOk X.prog X.w H s.heap p (SetO X.prog X.w p S n) := I.hok p _ hp
  refine CW.sorted_I (I.ok.hd hc) hS h64 fun h' tk d' out ns D e hk hD hat hi hs hl hm => ?_
  have hn : H D = none := I.hok.fresh hD
  refine ⟨.ref D, upd H D (.lst (ns.map V.int)), I.call' (s' := { s with heap := h', toks := tk, drawn := d' }) (ch := []) rfl (Un.laid hk hD hn) (I.hok.laid hk hD ⟨?_, out, e, vals_ints hi, hat⟩) I.bare (fun b z => by cases z), rfl, q D ns hn hs hl hm⟩
  rw [List.length_map, sizeLine_eq]
  omega
end
/-! # what stays -/
/-- tuples stay -/
def TK (H H' : Hp) : Prop := ∀ b xs, H b = some (.tup xs) → H' b = some (.tup xs)
theorem Same.tk {H H' : Hp} (h : Same H H') : TK H H' := fun b xs e => h b _ e
theorem TK.trans {H H1 H2 : Hp} (a : TK H H1) (b : TK H1 H2) : TK H H2 := fun c o h => b c o (a c o h)
theorem Same.upd {H : Hp} {l : Addr} {o : HO} (h : H l = none) : Same H (upd H l o) := fun b u e => by rw [upd_ne (ne_of_none e h)]; exact e
theorem Same.upd' {H H' : Hp} {l : Addr} {o : HO} (a : Same H H') (h : H l = none) : Same H (L2.upd H' l o) := fun b u e => by rw [upd_ne (ne_of_none e h)]; exact a b u e
end L2

namespace CW
open PySem
/-! # sorted of a dict whose keys are ints and texts -/
section
variable {prog : Program} {w : World} {A : Around} {E : Value → Shared → Prop} {s : Shared} {K : Type} [DecidableEq K] {knd : KeyKind prog w K} {d : Addr} {kvs : List (K × Value)} {ep : Nat}
end
end CW
namespace L2
open PySem PySem.Spec PyProof.Rows
section
variable {X : Cx}
/-! # min, max, any, all, sorted of lists -/
theorem call_maxL (hc : X.calm = true) : CallR X (.builtin "max") (fun xs H Q => ∃ p ns, xs = [.ref p] ∧ SqL X.K H p (ns.map V.int) ∧ ns ≠ [] ∧ ∀ M : Int, M ∈ ns → (∀ a ∈ ns, a ≤ M) → Q (.int M) H) := by
  intro pins s σ H xs us Q I r h
  obtain ⟨p, ns, rfl, hq, hne, q⟩ := h
  obtain ⟨u, rfl, rx⟩ := vals1 r
  cases rx
  obtain ⟨its, rv, pl, _⟩ := I.list hq
  have hi : IntsAre its ns := intsAre_of rv
  obtain ⟨xs, e⟩ := hi.allInts.items
  have hns : ns = xs.toList.map (·.1) := by rw [← hi.numsOf, ← nums_intItems, ← e]
  have hsz : 0 < xs.size := by
    rcases Nat.eq_zero_or_pos xs.size with z | z
    · exfalso; refine hne ?_; rw [hns, List.map_eq_nil_iff]; exact List.length_eq_zero_iff.mp (by simpa using z)
    · exact z
  have hl := pl.isList
  rw [e] at hl
  refine max_intList (I.ok.hd hc) hl hsz fun v h' tk hv hk => ?_
  obtain ⟨t, rfl⟩ := intItems_at hv
  obtain ⟨h1, h2⟩ := argBest_gt (numAt xs) (xs.size - 1)
  refine ⟨.int _, H, I.kept (t' := tk) hk, ⟨t, rfl⟩, q _ ?_ fun a ha => ?_⟩
  · rw [hns, numAt_eq]; exact getD_mem (by rw [List.length_map, Array.length_toList]; omega)
  · rw [hns] at ha
    obtain ⟨j, hj, rfl⟩ := mem_getD ha
    rw [List.length_map, Array.length_toList] at hj
    rw [← numAt_eq]; exact h2 j (by omega)
theorem bools_at {bs : List Bool} {its : List Value} (rv : Vals (bs.map V.bl) its) {i : Nat} {v : Value} (h : its[i]? = some v) : v = .bool (bs.getD i false) := by
  have hl := rv.length
  rw [List.length_map] at hl
  have hi : i < its.length := (List.getElem?_eq_some_iff.mp h).1
  obtain ⟨u, hu, ru⟩ := rv.get (i := i) (x := V.bl (bs.getD i false)) (by simp [List.getD_eq_getElem?_getD, show i < bs.length by omega])
  rw [h] at hu
  cases hu
  exact ru
theorem all_range (bs : List Bool) (n : Nat) (h : n = bs.length) : (List.range n).all (fun i => bs.getD i false) = bs.all id := by
  subst h
  induction bs with
  | nil => rfl
  | cons b r ih =>
    rw [List.length_cons, List.range_succ_eq_map, List.all_cons, List.all_map, List.all_cons, ← ih]
    rfl
theorem call_allL (hc : X.calm = true) : CallR X (.builtin "all") (fun xs H Q => ∃ p, ∃ (bs : List Bool), xs = [.ref p] ∧ SqL X.K H p (bs.map V.bl) ∧ Q (.bl (bs.all id)) H) := by
  intro pins s σ H xs us Q I r h
  obtain ⟨p, bs, rfl, hq, q⟩ := h
  obtain ⟨u, rfl, rx⟩ := vals1 r
  cases rx
  obtain ⟨its, rv, pl, _⟩ := I.list hq
  have hl := rv.length
  rw [List.length_map] at hl
  have hlt : p < s.heap.objs.size := by obtain ⟨_, e, _⟩ := pl.isList; exact Heap.lt_size e
  refine call_all_walk (wpAny_pyIter_list pl.isList ⟨_, _, _, _, _, _, fun i => bs.getD i false, rfl, Walks.list (by show X.A.handled = none; exact I.ok.hd hc) s.heap.objs.size p (Nat.ne_of_lt hlt) its.toArray, ⟨⟨_, Heap.get?_push_size _ rfl, rfl, rfl⟩, pl.isList.push _⟩, ?_, fun h' tk hk => ?_⟩)
  · intro i v s' Q' E' hP hQ
    have hP' : its[i]? = some v := by simpa using hP
    rw [bools_at rv hP']
    exact wpAny_truthy_bool hQ
  · rw [all_range bs _ (by simp [hl])]
    refine ⟨.bl _, H, I.kept (t' := tk) fun b o e => hk b o (fun z => ?_) (Heap.get?_push_of_some _ e), rfl, q⟩
    rw [List.mem_singleton.mp z] at e
    exact absurd (Heap.lt_size e) (Nat.lt_irrefl _)
/-- sorted of a list of ints -/
theorem call_sortedL : CallR X (.builtin "sorted") (fun xs H Q => ∃ p ns, xs = [.ref p] ∧ SqL X.K H p (ns.map V.int) ∧ ns.length < 64 ∧
    ∀ l (ms : List Int), H l = none → ms.Pairwise (· ≤ ·) → ms.Perm ns → Q (.ref l) (upd H l (.lst (ms.map V.int)))) := by
  intro pins s σ H xs us Q I r h
  obtain ⟨p, ns, rfl, hq, h64, q⟩ := h
  obtain ⟨u, rfl, rx⟩ := vals1 r
  cases rx
  obtain ⟨its, rv, pl, _⟩ := I.list hq
  have hi : IntsAre its ns := intsAre_of rv
  have hil := hi.length
  refine sorted_ints pl.isList hi (by omega) fun out ms a1 a2 a3 => ?_
  obtain ⟨e, hat⟩ := sortedAll_at s.heap its out
  have hn : H (s.heap.objs.size + 1) = none := I.hok.fresh (Nat.le_succ _)
  refine ⟨.ref (s.heap.objs.size + 1), upd H (s.heap.objs.size + 1) (.lst (ms.map V.int)), I.laid (t' := s.toks) (fun b o z => sortedAll_old z) (Nat.le_succ _) ⟨?_, out.toList, e, vals_ints a1, by simpa using hat⟩, rfl, q _ ms hn a3 a2⟩
  rw [List.length_map, a2.length_eq, sizeLine_eq]
  omega
end
end L2

/-! # games as data -/
namespace Gm
open PySem L2
abbrev Pl := Int × Int × List Int
def IsPl (H : Hp) (v : V) (p : Pl) : Prop := ∃ a b, v = .ref a ∧ H a = some (.tup [.int p.1, .int p.2.1, .ref b]) ∧ H b = some (.tup (p.2.2.map V.int))
def IsGm (H : Hp) (v : V) (g : List Pl) : Prop := ∃ a vs, v = .ref a ∧ H a = some (.tup vs) ∧ Paired (IsPl H) vs g
theorem IsPl.tk {H H' : Hp} {v : V} {p : Pl} (h : IsPl H v p) (k : TK H H') : IsPl H' v p := by
  obtain ⟨a, b, rfl, h1, h2⟩ := h
  exact ⟨a, b, rfl, k _ _ h1, k _ _ h2⟩
theorem pls_tk {H H' : Hp} {vs : List V} {g : List Pl} (h : Paired (IsPl H) vs g) (k : TK H H') : Paired (IsPl H') vs g := Paired.mapP h fun _ _ z => z.tk k
theorem IsGm.tk {H H' : Hp} {v : V} {g : List Pl} (h : IsGm H v g) (k : TK H H') : IsGm H' v g := by
  obtain ⟨a, vs, rfl, h1, h2⟩ := h
  exact ⟨a, vs, rfl, k _ _ h1, pls_tk h2 k⟩
theorem paired_get {α β : Type} {F : α → β → Prop} : ∀ {l₁ : List α} {l₂ : List β}, Paired F l₁ l₂ → ∀ {i : Nat} {x : α}, l₁[i]? = some x → ∃ y, l₂[i]? = some y ∧ F x y
  | _, _, .nil, _, _, e => by simp at e
  | _, _, .cons r t, 0, _, e => by simp at e; subst e; exact ⟨_, rfl, r⟩
  | _, _, .cons r t, i + 1, x, e => by
    obtain ⟨y, h1, h2⟩ := paired_get t (i := i) (x := x) (by simpa using e)
    exact ⟨y, by simpa using h1, h2⟩
theorem paired_get2 {α β : Type} {F : α → β → Prop} : ∀ {l₁ : List α} {l₂ : List β}, Paired F l₁ l₂ → ∀ {i : Nat} {y : β}, l₂[i]? = some y → ∃ x, l₁[i]? = some x ∧ F x y
  | _, _, .nil, _, _, e => by simp at e
  | _, _, .cons r t, 0, _, e => by simp at e; subst e; exact ⟨_, rfl, r⟩
  | _, _, .cons r t, i + 1, y, e => by
    obtain ⟨x, h1, h2⟩ := paired_get2 t (i := i) (y := y) (by simpa using e)
    exact ⟨x, by simpa using h1, h2⟩
theorem paired_len {α β : Type} {F : α → β → Prop} {l₁ : List α} {l₂ : List β} (h : Paired F l₁ l₂) : l₁.length = l₂.length := Paired.length h
def plD (p : Pl) : PyData := .tuple [.int p.1, .int p.2.1, .tuple (p.2.2.map PyData.int)]
theorem rds_ints (H : Hp) : ∀ ws : List Int, RDs H (ws.map V.int) (ws.map PyData.int)
  | [] => .nil
  | w :: r => .cons (.int w) (rds_ints H r)
theorem IsPl.rd {H : Hp} {v : V} {p : Pl} (h : IsPl H v p) : RD H v (plD p) := by
  obtain ⟨a, b, rfl, h1, h2⟩ := h
  exact .tup h1 (.cons (.int _) (.cons (.int _) (.cons (.tup h2 (rds_ints H _)) .nil)))
theorem can_ints : ∀ ws : List Int, PyData.canLayAll0 (ws.map PyData.int) = true
  | [] => by simp [PyData.canLayAll0]
  | w :: r => by simp [PyData.canLayAll0, PyData.canLay0, can_ints r]
theorem depth_ints : ∀ ws : List Int, PyData.depthAll (ws.map PyData.int) ≤ 1
  | [] => by simp [PyData.depthAll]
  | w :: r => by
    have := depth_ints r
    simp [PyData.depthAll, PyData.depth]
    try omega
/-- a place as the document says -/
structure WfPl (many : Int) (p : Pl) : Prop where
  hand : p.1 = 0 ∨ p.1 = 1
  ways : p.2.2 ≠ []
  inn : ∀ w ∈ p.2.2, 0 ≤ w ∧ w < many
  ris : p.2.2.Pairwise (· < ·)
theorem perm_of_len : ∀ {l' l : List Int}, l'.Nodup → (∀ k ∈ l', k ∈ l) → l.length = l'.length → l.Perm l'
  | [], l, _, _, e => by rw [List.length_eq_zero_iff.mp e]
  | a :: r, l, nd, sub, e => by
    have ha : a ∈ l := sub a List.mem_cons_self
    have p := List.perm_cons_erase ha
    rw [List.nodup_cons] at nd
    have q := perm_of_len (l' := r) (l := l.erase a) nd.2 (fun k hk => (List.mem_erase_of_ne (fun z : k = a => nd.1 (by rw [← z]; exact hk))).mpr (sub k (List.mem_cons_of_mem _ hk))) (by have := p.length_eq; simp at this e; omega)
    exact p.trans (List.Perm.cons a q)
theorem sorted_lt {ns ws : List Int} (h1 : ns.Pairwise (· ≤ ·)) (h2 : ns.length = (ddp ws).length) (h3 : ∀ k, k ∈ ns ↔ ws.any (· == k) = true) : ns.Pairwise (· < ·) := by
  have hm : ∀ k, k ∈ ddp ws ↔ k ∈ ns := fun k => by
    rw [h3, ← ddp_mem]
    simp
  have p : ns.Perm (ddp ws) := perm_of_len (ddp_nodup ws) (fun k hk => (hm k).mp hk) h2
  have nd : ns.Nodup := p.nodup_iff.mpr (ddp_nodup ws)
  exact (h1.and nd).imp fun {a b} ⟨x, y⟩ => by omega
end Gm

/-! # refusals: raised, passed on, caught -/
namespace L2
open PySem PySem.Spec PyProof.Rows
section
variable {X : Cx} {pins : List (Addr × Obj)} {σ : St} {H : Hp} {s : Shared}
theorem Inv.nf (I : Inv X pins σ H s) : ∀ b ∈ frs X.stack, H b = none ∧ ∃ o, s.heap.get? b = some o ∧ ∀ vs, o.data ≠ .fields vs := fun b hb => ⟨I.stkFree b hb, (I.stack.mem hb).2⟩
end
/-! a def of the text that may refuse; an exception of a callee passes on -/
section
variable {P : Program} {w : World} {K : PySem.W.Frag} {mg : Str → Option Value} {base : Heap} {N : List Str} {qual : Str} {scope : Scope} {f : Addr} {cd : Value} {A : Around} {outer : List Env} {s : Shared} {H : Hp} {E : XK}
end
end L2

namespace L2
open PySem PySem.Spec PyProof.Rows
/-! # isinstance of an exception -/
/-- an exception of the class at C -/
def ExcP (a C : Addr) (h : Heap) : Prop := ∃ oe, h.get? a = some oe ∧ oe.cls = .ref C
section
variable {K : PySem.W.Frag} {a C : Addr}
theorem ExcP.type {M : Model} {h : Heap} (p : ExcP a C h) : PySem.W.Looks M h (typeOf (.ref a)) (.ref C) := by
  obtain ⟨oe, h1, h2⟩ := p
  exact h2 ▸ (PySem.W.Looks.ld h1).andThen .now
end
/-! # try: name = f(..) except C as e: suite -/
section
variable {X : Cx} {pins : List (Addr × Obj)} {σ : St} {H : Hp} {s : Shared} {a : Addr}
end
theorem ObjOk.there {P : Program} {w : World} {H : Hp} {h : Heap} {a : Addr} {o : HO} (x : ObjOk P w H h a o) : ∃ ob, h.get? a = some ob := by
  induction o with
  | lst xs => obtain ⟨_, its, n, r, e⟩ := x; exact ⟨_, e⟩
  | tup xs => obtain ⟨_, its, r, ob, e, c⟩ := x; exact ⟨_, e⟩
  | dK kvs => obtain ⟨_, _, vs, r, ob, es, ep, e, c⟩ := x; exact ⟨_, e⟩
  | dT kvs => obtain ⟨_, _, xs, r, ob, es, ep, e, c⟩ := x; exact ⟨_, e⟩
  | set S n => obtain ⟨ob, es, ep, t, e, c⟩ := x; exact ⟨_, e⟩
  | ins C dx fs => obtain ⟨d, z, ne, e, r⟩ := x; exact ⟨_, e⟩
  | own y => exact x
  | xd fs => obtain ⟨mA, ⟨od, es, ep, e, c⟩, r⟩ := x; exact ⟨_, e⟩
  | rng lo hi => obtain ⟨t, u, v, e⟩ := x; exact ⟨_, e⟩
  | frz ob u ih => obtain ⟨e, q⟩ := x; exact ⟨_, e⟩
  | tbl ps => exact ⟨_, x⟩
  | met f y => exact ⟨_, x⟩
  | ext φ => obtain ⟨p, e, st⟩ := x; exact e
section
variable {X : Cx} {pins : List (Addr × Obj)} {σ : St} {H : Hp} {s : Shared}
end
end L2

namespace L2
open PySem PySem.Spec PyProof.Rows
section
variable {X : Cx}
/-! # f-strings -/
/-! # len of a set -/
/-! # for over a list or a tuple -/
/-! # inside a comprehension's block, the fragment by name -/
/-! # a cut: what holds behind a statement -/
theorem ps_cut {st : Stmt} {t : TS} (h : PS X st t) : PS X st (fun D σ H => ∃ Mid : St → Hp → Prop, t { D with nx := Mid } σ H ∧ ∀ σ' H', Mid σ' H' → D.nx σ' H') := by
  intro pins s σ H D I hq
  obtain ⟨Mid, h1, h2⟩ := hq
  refine thn (h pins s σ H _ I h1) fun f s1 q => ?_
  cases f with
  | next => obtain ⟨σ', H', I', q'⟩ := q; exact ⟨σ', H', I', h2 σ' H' q'⟩
  | ret v => exact q
  | brk => exact q
  | cont => exact q
end
end L2

/-! # texts -/
namespace L2
open PySem PySem.Spec PyProof.Rows
section
variable {X : Cx} {tg l : Expr} {tl : TE}
/-! # join -/
/-! # split -/
/-! # int of a text -/
end
/-! # what split gives -/
end L2

/-! # a refusal inside a comprehension -/
namespace L2
open PySem PySem.Spec PyProof.Rows
section
variable {M : Model} {A : Around} {E : Value → Shared → Prop} {s : Shared}
end
end L2

/-! # a refusal leaves a comprehension -/
namespace L2
open PySem PySem.Spec PyProof.Rows
section
variable {M : Model} {A : Around} {E : Value → Shared → Prop} {s : Shared}
end
section
variable {P : Program} {w : World} {K : PySem.W.Frag} {mg : Str → Option Value} {base : Heap} {N : List Str} {qual : Str} {scope : Scope} {f : Addr} {cd : Value} {A : Around} {outer : List Env} {s : Shared} {H : Hp} {E : XK}
end
end L2

namespace L2
open PySem PySem.Spec PyProof.Rows
section
variable {prog : Program} {w : World} {A : Around} {R : Result → Shared → Prop} {s : Shared}
end
section
variable {X : Cx} {target iter elt : Expr} {ifs : List Expr} {scope : Scope} {pos : Pos} {N' : List Str} {src : List (Option Nat)} {wi : TI} {g : TG} {tc : TT} {te : TE}
end

section
variable {P : Program} {w : World} {K : PySem.W.Frag} {mg : Str → Option Value} {base : Heap} {N : List Str} {qual : Str} {scope : Scope} {f : Addr} {cd : Value} {A : Around} {outer : List Env} {s : Shared} {H : Hp} {E : XK}
end
end L2

/-! # more of texts: slices, partition, signs walked -/
namespace L2
open PySem PySem.Spec PyProof.Rows
section
variable {X : Cx}
/-! # partition -/
end
end L2

/-! # list of a reversed list -/
namespace CW
open PySem
section
variable {prog : Program} {w : World} {A : Around} {E : Value → Shared → Prop} {s : Shared}
end
end CW
namespace L2
open PySem PySem.Spec PyProof.Rows
section
variable {X : Cx} {e : Expr} {te : TE} {p1 p2 q1 q2 : Pos}
end
end L2

/-! # keys (n, (m1, m2, ..)) -/
namespace CW
open PySem
section
variable (prog : Program) (w : World)
/-- the tuple at a holds a whole number and a tuple of whole numbers -/
def IsNK (h : Heap) (k : Int × List Int) (a : Addr) : Prop := ∃ o its n v b, h.get? a = some o ∧ o.cls = .type "tuple" ∧ o.data = .seq its n ∧ its.toList = [v, .ref b] ∧ Value.isInt k.1 v = true ∧ IsTupleKey (intKind prog w) h k.2 b
variable {prog w}
theorem IsNK.typeIs {s : Shared} {k : Int × List Int} {a : Addr} (x : IsNK prog w s.heap k a) : s.TypeIs (.ref a) "tuple" := let ⟨o, _, _, _, _, ho, hc, _⟩ := x; ⟨o, ho, hc⟩
theorem IsNK.inj {h : Heap} {a : Addr} {x y : Int × List Int} (hx : IsNK prog w h x a) (hy : IsNK prog w h y a) : x = y := by
  obtain ⟨o, its, n, v, b, ho, _, hd, hl, hv, hb⟩ := hx
  obtain ⟨o', its', n', v', b', ho', _, hd', hl', hv', hb'⟩ := hy
  obtain rfl : o = o' := Option.some.inj (ho.symm.trans ho')
  rw [hd] at hd'
  injection hd' with h1 _
  subst h1
  rw [hl] at hl'
  injection hl' with e1 e2
  injection e2 with e2 _
  injection e2 with e2
  subst e1 e2
  exact Prod.ext (Value.isInt_inj _ _ _ hv hv') (hb.inj hb')
theorem IsNK.keeps {h h' : Heap} {k : Int × List Int} {a d : Addr} {o : Obj} {es ep} (x : IsNK prog w h k a) (ho : h.get? d = some o) (hd : o.data = .dict es ep) (hs : Heap.SameBut d h h') : IsNK prog w h' k a := by
  obtain ⟨o', its, n, v, b, ho', hc, hd', hl, hv, hb⟩ := x
  have hne : a ≠ d := fun z => by
    subst z
    obtain rfl : o' = o := Option.some.inj (ho'.symm.trans ho)
    rw [hd] at hd'
    exact nomatch hd'
  exact ⟨o', its, n, v, b, (hs.2 a hne).trans ho', hc, hd', hl, hv, hb.keeps ho hd hs⟩
variable {A : Around} {E : Value → Shared → Prop} {s : Shared}
end
end CW

/-! # a dict whose keys are tuples of any kind -/
namespace L2
open PySem PySem.Spec PyProof.Rows
/-- keys that tracked tuples show -/
structure KeyOn (P : Program) (w : World) (κ : Type) [DecidableEq κ] where
  knd : HeapKind P w κ
  sh : Hp → Addr → κ → Prop
  ok : ∀ {H : Hp} {h : Heap} {a : Addr} {k : κ}, HOk P w H h → sh H a k → knd.is h k a
  tk : ∀ {H H' : Hp} {a : Addr} {k : κ}, sh H a k → (∀ b xs, H b = some (.tup xs) → H' b = some (.tup xs)) → sh H' a k
  room : ∀ {A : Around}, A.units + 12 < cLine → knd.room A.in1
section
variable {P : Program} {w : World} {κ : Type} [DecidableEq κ]
abbrev KR : List (κ × Addr × V) → List (κ × Addr × Value) → Prop := Paired fun p q => p.1 = q.1 ∧ p.2.1 = q.2.1 ∧ RelV p.2.2 q.2.2
def valH (kas : List (κ × Addr × V)) (k : κ) : Option V := (kas.find? fun x => decide (x.1 = k)).map (·.2.2)
theorem KR.val {kas : List (κ × Addr × V)} {xs : List (κ × Addr × Value)} (r : KR kas xs) (k : κ) : RelO (valH kas k) ((atKey xs k).map (·.2)) := by
  induction r with
  | nil => exact True.intro
  | @cons p q ps qs h t ih =>
    obtain ⟨h1, _, h2⟩ := h
    by_cases e : p.1 = k
    · have e' : q.1 = k := h1.symm.trans e
      have a1 : atKey (q :: qs) k = some q.2 := by simp [atKey, List.find?_cons, e']
      have a2 : valH (p :: ps) k = some p.2.2 := by simp [valH, List.find?_cons, e]
      rw [a1, a2]
      exact h2
    · have e' : ¬ q.1 = k := fun z => e (h1.trans z)
      have a1 : atKey (q :: qs) k = atKey qs k := by simp [atKey, List.find?_cons, e']
      have a2 : valH (p :: ps) k = valH ps k := by simp [valH, List.find?_cons, e]
      rw [a1, a2]
      exact ih
/-- the dict at a -/
def DictH (kn : KeyOn P w κ) (a : Addr) (kas : List (κ × Addr × V)) : HO := .ext fun h => kas.length ≤ sizeLine ∧ (a == sysModules) = false ∧
  ∃ xs, KR kas xs ∧ ∃ o es ep, h.get? a = some o ∧ o.ExactDict ∧ o.data = .dict es ep ∧ es.toList = xs.map (entryOfKey kn.knd) ∧ (xs.map (·.1)).Nodup
/-- the dict at a, and its keys' tuples -/
structure HasD (kn : KeyOn P w κ) (H : Hp) (a : Addr) (kas : List (κ × Addr × V)) : Prop where
  at_ : H a = some (DictH kn a kas)
  keys : ∀ x ∈ kas, kn.sh H x.2.1 x.1
theorem HasD.dd {kn : KeyOn P w κ} {H : Hp} {h : Heap} {a : Addr} {kas : List (κ × Addr × V)} (d : HasD kn H a kas) (ok : HOk P w H h) : kas.length ≤ sizeLine ∧ (a == sysModules) = false ∧ ∃ xs, KR kas xs ∧ h.DictOfH kn.knd a xs := by
  obtain ⟨⟨z, y, xs, r, o, es, ep, h1, h2, h3, h4, h5⟩, _, _⟩ := (show ObjOk P w H h a (DictH kn a kas) from ok a _ d.at_)
  refine ⟨z, y, xs, r, o, es, ep, h1, h2, h3, h4, fun x hx => ?_, h5⟩
  have all : ∀ {l : List (κ × Addr × V)} {m : List (κ × Addr × Value)}, KR l m → (∀ x ∈ l, kn.sh H x.2.1 x.1) → ∀ x ∈ m, kn.knd.is h x.1 x.2.1 := by
    intro l m q
    induction q with
    | nil => intro _ x hx; exact nomatch hx
    | @cons p q ps qs hq t ih =>
      intro hk x hx
      rcases List.mem_cons.mp hx with e | hx
      · subst e
        rw [← hq.1, ← hq.2.1]
        exact kn.ok ok (hk p List.mem_cons_self)
      · exact ih (fun y hy => hk y (List.mem_cons_of_mem _ hy)) x hx
  exact all r d.keys x hx
end
section
variable {X : Cx} {pins : List (Addr × Obj)} {σ : St} {H : Hp} {s : Shared} {a b : Addr} {v : V} {r : Value} {A : Around} {E : Value → Shared → Prop} {κ : Type} [DecidableEq κ] {kn : KeyOn X.prog X.w κ} {kas : List (κ × Addr × V)} {k : κ}
theorem HasD.typeIs (I : Inv X pins σ H s) (d : HasD kn H a kas) : s.TypeIs (.ref a) "dict" := by
  obtain ⟨z, hd, xs, rel, dd⟩ := d.dd I.hok
  exact dd.typeIs
end
/-! # readings and rules -/
section
variable {P : Program} {w : World} {κ : Type} [DecidableEq κ]
variable {X : Cx} {o i e value : Expr} {pos pos' tpos : Pos} {td ty tv : TE}
end
/-! # two kinds: (m, n) and (m, (n1, n2, ..)) -/
end L2

/-! # enumerate of a list -/
namespace L2
open PySem PySem.Spec PyProof.Rows
section
variable {X : Cx} {pins : List (Addr × Obj)} {σ : St} {H : Hp} {s : Shared} {h' : Heap}
/-- several untracked records of ours have turned -/
theorem Inv.turnedL {t' : Nat} {fp : List Addr} (I : Inv X pins σ H s) (k : ∀ b o, b ∉ fp → s.heap.get? b = some o → h'.get? b = some o) (hf : ∀ b ∈ fp, FpOk X pins H b) : Inv X pins σ H { s with heap := h', toks := t' } := by
  have nit : ∀ b u, H b = some u → b ∉ fp := fun b u e z => by rw [(hf b z).1] at e; cases e
  refine I.step (g' := s.gens) (d' := s.drawn) (ch := fp) (fun b hb => ?_) (fun b o _ _ hc e _ => k b o hc e) (fun b o _ _ hc e _ => ⟨o.slots, k b o hc e⟩) (fun _ _ _ _ n => n)
    (fun b o hc e => ⟨o, k b o hc e⟩) (fun _ _ e => e) (fun _ _ _ e => e) (fun b ps e => ⟨#[], by rw [e]; simp⟩) (fun m hm => ?_) (fun b u e => ?_) I.bare
  · obtain ⟨f0, f1, f2, f3, f4, f5⟩ := hf b hb
    exact ⟨f3, f1, f4, f5⟩
  · obtain ⟨o, es, ep, ho, r⟩ := hm
    exact ⟨o, es, ep, k _ o (fun z => (hf _ z).2.1 rfl) ho, r⟩
  · refine (I.hok b u e).stay (fun c v hc q => k c v ?_ q) (fun _ q => q) fun _ _ q => q
    rcases hc with z | z
    · rw [z]; exact nit b u e
    · exact nit c _ z
end
/-- numbered items of the list at a -/
def Ite (K : PySem.W.Frag) (a : Addr) : It :=
  ⟨fun i H => ∃ xs x, SqL K H a xs ∧ xs[i]? = some x, fun i H v H' => ∃ t x, H t = none ∧ v = .ref t ∧ H' = upd H t (.tup [.int i, x]) ∧ ∀ xs, SqL K H a xs → xs[i]? = some x, fun i H => ∃ xs, SqL K H a xs ∧ xs.length ≤ i⟩
theorem turn_enum {P : Program} {w : World} {K : PySem.W.Frag} {elts : List Expr} {x1} {pos : Pos} (a e it : Addr) (hei : e ≠ it) : Turn P w K (.Tuple elts x1 pos) (Ite K a) [e, it] e (fun i h => (∃ old, IsEnum h e it i old) ∧ h.IsListIter it a i) where
  mem := by simp
  obj := fun i h st b hb => by
    obtain ⟨⟨old, he⟩, o, ho, c, d⟩ := st
    rcases List.mem_cons.mp hb with z | z
    · rw [z]; exact ⟨_, he, fun v z => nomatch z⟩
    · rw [List.mem_singleton.mp z]; exact ⟨o, ho, fun v z => by rw [d] at z; cases z⟩
  keep := fun i h h' st k => ⟨⟨_, k e (by simp) _ st.1.choose_spec⟩, st.2.at fun o q => k it (by simp) o q⟩
  item := by
    intro X hP hw hK hc i pins s σ H E I hf st hg
    subst hP hw hK
    obtain ⟨xs, x, hq, hx⟩ := hg
    obtain ⟨its, rv, p, hz⟩ := I.list hq
    obtain ⟨u, hu, ru⟩ := rv.get hx
    obtain ⟨⟨old, he⟩, hit⟩ := st
    refine wpAny_pyNext_enum_item he hit p.isList (x := u) (by simpa using hu) hei fun h1 ho hit1 hT hsz hk => ?_
    refine ⟨_, rfl, wpAny_letOwnedTupleGo_enum ho fun h2 he2 hs2 => ?_⟩
    have helt : e < s.heap.objs.size := Heap.lt_size he
    have hilt : it < s.heap.objs.size := by obtain ⟨_, z, _⟩ := hit; exact Heap.lt_size z
    have hfr : H s.heap.objs.size = none := I.hok.fresh (Nat.le_refl _)
    have I1 := I.laid (t' := s.toks + 1) (a := s.heap.objs.size) (o := .tup [.int i, x]) (h' := s.heap.push { cls := .type "tuple", data := .seq #[.int i s.toks, u] }) (fun b o z => Heap.get?_push_of_some _ z) (Nat.le_refl _) ⟨by show 2 ≤ sizeLine; decide, [.int i s.toks, u], .cons ⟨_, rfl⟩ (.cons ru .nil), IsTup.new _ _⟩
    have nT : s.heap.objs.size ∉ [e, it] := fun z => by
      rcases List.mem_cons.mp z with z | z
      · exact Nat.ne_of_gt helt z
      · exact Nat.ne_of_gt hilt (List.mem_singleton.mp z)
    have hf1 : ∀ b ∈ [e, it], FpOk X pins (upd H s.heap.objs.size (.tup [.int i, x])) b := fun b hb => by
      obtain ⟨f0, f1⟩ := hf b hb
      exact ⟨by rw [upd_ne (fun z => nT (by rw [← z]; exact hb))]; exact f0, f1⟩
    have I2 := I1.turnedL (t' := s.toks + 1) (h' := h2) (fp := [e, it]) (fun b o hb q => by
      have nbe : b ≠ e := fun z => hb (by simp [z])
      have nbi : b ≠ it := fun z => hb (by simp [z])
      rcases Heap.get?_push_cases q with ⟨z, zo⟩ | q'
      · rw [z, zo]
        exact (hs2.2 _ (Nat.ne_of_gt helt)).trans hT
      · exact (hs2.2 b nbe).trans (hk b o nbe nbi q')) hf1
    refine ⟨.ref s.heap.objs.size, _, I2, rfl, ⟨_, x, hfr, rfl, rfl, fun ys hy => by rw [I.list_inj hy hq]; exact hx⟩, ⟨⟨_, by simpa using he2⟩, hit1.at fun o y => (hs2.2 it hei.symm).trans y⟩, fun b hb => (hf1 b hb).1⟩
  done := by
    intro X hP hw hK hc i pins s σ H E I hf st hg
    subst hP hw hK
    obtain ⟨xs, hq, hx⟩ := hg
    obtain ⟨its, rv, p, hz⟩ := I.list hq
    have hl := rv.length
    obtain ⟨⟨old, he⟩, hit⟩ := st
    exact wpAny_pyNext_enum_end (I.ok.hd hc) he hit p.isList (Array.getElem?_eq_none (by simp; omega)) fun h' eb => ⟨rfl, I.turnedL (t' := s.toks) (fp := [e, it]) (fun b o hb q => eb b o (fun z => hb (by simp [z])) q) hf⟩
  self := fun _ _ _ _ _ st h => by
    obtain ⟨⟨old, he⟩, _⟩ := st
    exact wpAny_pyIter_enum he h
section
variable {X : Cx} {l : Expr} {tl : TE} {elts : List Expr} {x1 : ExprContext} {pos p1 q1 : Pos}
end
theorem for_enum {K : PySem.W.Frag} {a : Addr} {xs : List V} {g : TG} {tb : TS} {D : Ends} {σ : St} {H : Hp} (Pv : Nat → St → Hp → Prop) (h0 : Pv 0 σ H) (hl : ∀ i σ H, i ≤ xs.length → Pv i σ H → SqL K H a xs)
    (hs : ∀ i x t σ H, xs[i]? = some x → H t = none → Pv i σ H → g (.ref t) σ (upd H t (.tup [.int i, x])) fun σ2 H2 => tb { D with nx := Pv (i + 1), ct := Pv (i + 1), bk := D.nx } σ2 H2) (hd : ∀ σ H, Pv xs.length σ H → D.nx σ H) :
    ∃ W : Nat → Nat → St → Hp → Prop, (∃ m, W 0 m σ H) ∧ ∀ i m σ H, W i m σ H →
      ((Ite K a).stop i H ∧ D.nx σ H) ∨ ((Ite K a).go i H ∧ ∃ N : St → Hp → Prop, (∀ σ' H', N σ' H' → ∃ m', m' < m ∧ W (i + 1) m' σ' H') ∧ ∀ x H', (Ite K a).yld i H x H' → g x σ H' fun σ2 H2 => tb { D with nx := N, ct := N, bk := D.nx } σ2 H2) := by
  refine ⟨fun i m σ H => m = xs.length - i ∧ i ≤ xs.length ∧ Pv i σ H, ⟨xs.length, by simp, Nat.zero_le _, h0⟩, ?_⟩
  rintro i m σ H ⟨rfl, hi, p⟩
  have q := hl i σ H hi p
  by_cases hlt : i < xs.length
  · refine .inr ⟨⟨xs, xs[i], q, by simp [hlt]⟩, Pv (i + 1), fun σ' H' p' => ⟨xs.length - (i + 1), by omega, rfl, hlt, p'⟩, fun v H' y => ?_⟩
    obtain ⟨t, x, ht, rfl, rfl, hy⟩ := y
    exact hs i x t σ _ (hy xs q) ht p
  · have e : i = xs.length := by omega
    subst e
    exact .inl ⟨⟨xs, q, Nat.le_refl _⟩, hd σ H p⟩
section
variable {X : Cx} {l : Expr} {tl : TE} {elts : List Expr} {x1} {pos p1 q1 : Pos}
/-- for .., .. in enumerate(l) -/
theorem pi_enum (hg : Gl X "enumerate") (hm : X.mg "enumerate" = none) (hl : PE X l tl) (hs1 : starEach [l] X.env = (false, eval l X.env) :: starEach [] X.env := by rfl) (hp1 : (backTo q1 (starEach [] X.env)).any (·.1) = false := by rfl) :
    PI X (.Tuple elts x1 pos) (.Call (.Name "enumerate" p1) [l] [] q1) (fun σ H R => tl σ H fun v H1 => ∃ a, v = .ref a ∧ (∃ xs, SqL X.K H1 a xs) ∧ R (Ite X.K a) H1) := by
  intro pins s σ H R I h
  refine wpAny_Call_Name_kw (ld_blt I hg hm PyProof.Rows.boot_enumerate ?_ (by decide) (by decide))
  refine PyProof.Rows.callWith_type1 ?_ hs1 hp1
  rw [hs1]
  show wpAny _ _ (spliced ((false, eval l X.env) :: backTo q1 (starEach [] X.env))) _ _ s
  refine Calls.spliced_cons (thn (hl pins s σ H _ I h) fun u s1 ⟨v, H1, I1, r1, q⟩ => ?_)
  refine Calls.spliced_nil ?_
  obtain ⟨a, rfl, ⟨xs, hq⟩, q⟩ := q
  cases r1
  obtain ⟨its, rv, p, hz⟩ := I1.list hq
  refine call_enumerate_list p.isList fun h' he hit hsz hk => ?_
  refine wpAny_pyIter_enum he ⟨s1.heap.objs.size + 1, [s1.heap.objs.size + 1, s1.heap.objs.size], _, _, H1, rfl, I1.kept (t' := s1.toks) hk, turn_enum a _ _ (Nat.succ_ne_self _), ⟨⟨_, he⟩, hit⟩, fun b hb => ?_, q⟩
  rcases List.mem_cons.mp hb with z | z
  · rw [z]; exact I1.fpOk (Nat.le_succ _) (I1.hok.fresh (Nat.le_succ _))
  · rw [List.mem_singleton.mp z]; exact I1.fpOk (Nat.le_refl _) (I1.hok.fresh (Nat.le_refl _))
end
end L2
namespace L2
open PySem PySem.Spec PyProof.Rows
section
variable {X : Cx}
/-- int(b) -/
theorem call_int_bl : CallR X (.type "int") (fun xs H Q => ∃ b : Bool, xs = [.bl b] ∧ Q (.int (if b then 1 else 0)) H) := by
  intro pins s σ H xs us Q I r h
  obtain ⟨b, rfl, q⟩ := h
  obtain ⟨u, rfl, ru⟩ := vals1 r
  cases (show u = Value.bool b from ru)
  exact call_int_bool ⟨.int _, H, I.tok _, ⟨_, rfl⟩, q⟩
end
end L2

namespace Gm
open PySem L2
/-! # lists of ints: helpers -/
def mkSc (names : List (Str × NameKind)) : Scope := { kind := .function, names := names, isGenerator := false, isCoroutine := false, more := [] }
theorem geti {ws : List Int} {j : Nat} {y : V} (h : (ws.map V.int)[j]? = some y) : ∃ w, y = V.int w ∧ ws[j]? = some w ∧ w ∈ ws := by
  rw [List.getElem?_map] at h
  cases e : ws[j]? with
  | none => rw [e] at h; cases h
  | some w => rw [e] at h; exact ⟨w, (Option.some.inj h).symm, rfl, List.mem_of_getElem? e⟩
theorem atints {st : List Int} {w : Int} (h0 : 0 ≤ w) (h1 : w < st.length) : atI (st.map V.int) w = some (V.int (st.getD w.toNat 0)) := by
  have e : w = ((w.toNat : Nat) : Int) := by omega
  rw [e]
  refine atI_nat ?_
  rw [List.getElem?_map, Int.toNat_natCast, List.getD_eq_getElem?_getD, List.getElem?_eq_getElem (by omega)]
  rfl
theorem inVints (x : Int) (ns : List Int) : inV (V.int x) (ns.map V.int) = decide (x ∈ ns) := by
  unfold inV
  rw [List.any_map]
  induction ns with
  | nil => rfl
  | cons a r ih =>
    rw [List.any_cons, ih]
    show ((a == x) || _) = _
    by_cases e : a = x
    · subst e; simp
    · have e' : ¬ x = a := fun z => e z.symm
      simp [e, e']
theorem flatints (ns : List Int) : (ns.map V.int).all flatV = true := by
  rw [List.all_map, List.all_eq_true]
  intro x _
  rfl
theorem shapedints (ns : List Int) : SeqAt.shaped (.list (ns.map PyData.int)) = true := by
  have h1 := can_ints ns
  have h2 := depth_ints ns
  unfold SeqAt.shaped
  rw [Bool.and_eq_true, decide_eq_true_eq]
  refine ⟨by simp [PyData.canLay0, h1], ?_⟩
  simp only [PyData.depth]
  omega
theorem rdlist {H : Hp} {l : Addr} {ns : List Int} (h : H l = some (.lst (ns.map V.int))) : RD H (.ref l) (.list (ns.map PyData.int)) := .lst h (rds_ints H ns)
theorem eqvints : ∀ ns ms : List Int, PyData.eqvAll (ns.map PyData.int) (ms.map PyData.int) = decide (ns = ms)
  | [], [] => by simp [PyData.eqvAll]
  | [], b :: s => by simp [PyData.eqvAll]
  | a :: r, [] => by simp [PyData.eqvAll]
  | a :: r, b :: s => by
    have := eqvints r s
    simp only [List.map_cons, PyData.eqvAll, PyData.eqv, this]
    by_cases e : a = b <;> by_cases e2 : r = s <;> simp [e, e2]
theorem eqvlist (ns ms : List Int) : PyData.eqv (.list (ns.map PyData.int)) (.list (ms.map PyData.int)) = decide (ns = ms) := by
  simp [PyData.eqv, eqvints]
theorem nodup_le : ∀ {l l' : List Int}, l.Nodup → (∀ k ∈ l, k ∈ l') → l.length ≤ l'.length
  | [], l', _, _ => by simp
  | a :: r, l', nd, sub => by
    rw [List.nodup_cons] at nd
    have ha : a ∈ l' := sub a List.mem_cons_self
    have q := nodup_le (l := r) (l' := l'.erase a) nd.2 (fun k hk => (List.mem_erase_of_ne (fun z : k = a => nd.1 (by rw [← z]; exact hk))).mpr (sub k (List.mem_cons_of_mem _ hk)))
    have e := List.length_erase_of_mem ha
    have : 0 < l'.length := List.length_pos_of_mem ha
    simp only [List.length_cons]
    omega
theorem nodup_bound {l : List Int} {m : Nat} (nd : l.Nodup) (h : ∀ x ∈ l, 0 ≤ x ∧ x < m) : l.length ≤ m := by
  have := nodup_le (l := l) (l' := (List.range m).map fun j : Nat => (j : Int)) nd (fun k hk => by
    obtain ⟨h0, h1⟩ := h k hk
    exact List.mem_map.mpr ⟨k.toNat, List.mem_range.mpr (by omega), by omega⟩)
  simpa using this
end Gm

namespace L2
open PySem PySem.Spec PyProof.Rows
/-! # a dict while a loop walks it: known to the object, and turned back -/
section
variable {X : Cx} {pins : List (Addr × Obj)} {σ : St} {H H' : Hp} {s : Shared} {a : Addr}
theorem Inv.froze {kvs : List (Key × V)} (I : Inv X pins σ H s) (e : H a = some (.dK kvs)) : ∃ o, Inv X pins σ (upd H a (.frz o (.dK kvs))) s := by
  have ok : ObjOk X.prog X.w H s.heap a (.dK kvs) := I.hok a _ e
  obtain ⟨o, ho⟩ : ∃ o, s.heap.get? a = some o := by
    obtain ⟨_, _, _, _, o, _, _, ho, _⟩ := id ok
    exact ⟨o, ho⟩
  refine ⟨o, I.write (t' := s.toks) (h' := s.heap) (x := a) (e := a) (by rw [e]; trivial) (.inl rfl) (fun _ _ _ z => z) ⟨o, ho⟩ ⟨ho, ?_⟩⟩
  exact ok
theorem Inv.thawed {u v : HO} {o : Obj} (I : Inv X pins σ H s) (e : H a = some (.frz o u)) (hn : ∀ o u, X.H₀ a ≠ some (.frz o u)) (hv : v = u) : Inv X pins σ (upd H a v) s := by
  subst hv
  have na : ∀ b, H b = none → b ≠ a := fun b z y => by rw [y, e] at z; cases z
  have ok := I.hok a _ e
  refine ⟨I.ok, I.os, I.bare, ⟨I.base.keep, I.base.slot, fun b o e1 e2 e3 => ?_, I.base.there, fun b xs e1 => ?_, fun b o u e1 => ?_, fun b ps e1 => ?_⟩, I.loc, I.cell, ?_, fun x c hc => ?_, fun p hp => ?_, fun b w hb => ?_, I.len⟩
  · have := I.base.free b o e1 e2 e3
    rw [upd_ne (na b this)]; exact this
  · have := I.base.tups b xs e1
    rw [upd_ne (fun z => by rw [z, e] at this; cases this)]; exact this
  · have := I.base.frzs b o u e1
    rw [upd_ne (fun z => hn o u (by rw [← z]; exact e1))]; exact this
  · obtain ⟨more, this⟩ := I.base.tbls b ps e1
    exact ⟨more, by rw [upd_ne (fun z => by rw [z, e] at this; cases this)]; exact this⟩
  · rw [upd_ne (na _ I.free)]; exact I.free
  · rw [upd_ne (na _ (I.freeC x c hc))]; exact I.freeC x c hc
  · obtain ⟨p1, p2, p3⟩ := I.pin p hp
    exact ⟨p1, by rw [upd_ne (na _ p2)]; exact p2, p3⟩
  · have ho : ∀ c y, H c = some (.own y) → upd H a v c = some (.own y) := fun c y z => by
      rw [upd_ne (fun t => by rw [t, e] at z; cases z)]; exact z
    have ht : ∀ c xs, H c = some (.tup xs) → upd H a v c = some (.tup xs) := fun c xs z => by
      rw [upd_ne (fun t => by rw [t, e] at z; cases z)]; exact z
    by_cases hba : b = a
    · subst hba
      rw [upd_same] at hb
      cases hb
      exact ok.2.stay (fun _ _ _ z => z) (fun c z => ho c _ z) ht
    · rw [upd_ne hba] at hb
      exact (I.hok b w hb).stay (fun _ _ _ z => z) (fun c z => ho c _ z) ht
end
/-- as it was at a -/
def back (H1 : Hp) (a : Addr) (H : Hp) : Hp := fun b => if b = a then H1 a else H b
theorem back_at {H1 H : Hp} {a : Addr} : back H1 a H a = H1 a := by unfold back; rw [if_pos rfl]
theorem back_ne {H1 H : Hp} {a b : Addr} (h : b ≠ a) : back H1 a H b = H b := by unfold back; rw [if_neg h]
theorem back_eq {H1 H : Hp} {a : Addr} (h : H a = H1 a) : back H1 a H = H := by
  funext b
  by_cases e : b = a
  · subst e; rw [back_at, h]
  · rw [back_ne e]
theorem back_upd {H1 H : Hp} {a : Addr} {u : HO} (h : H1 a = some u) : back H1 a H = upd H a u := by
  funext b
  by_cases e : b = a
  · subst e; rw [back_at, h, upd_same]
  · rw [back_ne e, upd_ne e]
/-- walked: as it stands -/
abbrev fz (H : Hp) (a : Addr) (o : Obj) (kvs : List (Key × V)) : Hp := upd H a (.frz o (.dK kvs))
theorem fz_at {H : Hp} {a : Addr} {o : Obj} {kvs : List (Key × V)} : fz H a o kvs a = some (.frz o (.dK kvs)) := upd_same
theorem fz_ne {H : Hp} {a b : Addr} {o : Obj} {kvs : List (Key × V)} (h : b ≠ a) : fz H a o kvs b = H b := upd_ne h
def Ends.back (D : Ends) (H1 : Hp) (a : Addr) (o : Obj) (kvs : List (Key × V)) : Ends where
  nx := fun σ H => H a = some (.frz o (.dK kvs)) ∧ D.nx σ (L2.back H1 a H)
  rt := fun v H => H a = some (.frz o (.dK kvs)) ∧ D.rt v (L2.back H1 a H)
  bk := fun σ H => H a = some (.frz o (.dK kvs)) ∧ D.bk σ (L2.back H1 a H)
  ct := fun σ H => H a = some (.frz o (.dK kvs)) ∧ D.ct σ (L2.back H1 a H)
theorem fz_same {H : Hp} {a : Addr} {o : Obj} {kvs : List (Key × V)} (h : H a = some (.frz o (.dK kvs))) : fz H a o kvs = H := by
  funext b
  by_cases e : b = a
  · subst e; rw [fz_at, h]
  · rw [fz_ne e]
section
variable {X : Cx}
/-- the turn back, of the invariant -/
theorem Inv.backed {pins : List (Addr × Obj)} {σ σ' : St} {H H2 : Hp} {s s' : Shared} {a : Addr} {o : Obj} {kvs : List (Key × V)} (I : Inv X pins σ H s) (r : Rd H a (.dK kvs)) (I2 : Inv X pins σ' H2 s') (e : H2 a = some (.frz o (.dK kvs))) (ho : ∀ o', H a = some (.frz o' (.dK kvs)) → o' = o) :
    Inv X pins σ' (back H a H2) s' := by
  rcases r with r | ⟨o', r⟩
  · rw [back_upd r]
    exact I2.thawed e (fun o1 u1 z => by have := I.base.frzs _ _ _ z; rw [r] at this; cases this) rfl
  · have := ho o' r
    subst this
    rw [back_eq (by rw [e, r])]
    exact I2
theorem Inv.fzs {pins : List (Addr × Obj)} {σ : St} {H : Hp} {s : Shared} {a : Addr} {kvs : List (Key × V)} (I : Inv X pins σ H s) (r : Rd H a (.dK kvs)) : ∃ o, Inv X pins σ (fz H a o kvs) s ∧ ∀ o', H a = some (.frz o' (.dK kvs)) → o' = o := by
  rcases r with r | ⟨o, r⟩
  · obtain ⟨o, I1⟩ := I.froze r
    exact ⟨o, I1, fun o' z => by rw [r] at z; cases z⟩
  · exact ⟨o, by rw [fz_same r]; exact I, fun o' z => by rw [r] at z; cases z; rfl⟩
theorem ps_frz {st : Stmt} {t : TS} (h : PS X st t) : PS X st (fun D σ H => ∃ a kvs, Rd H a (.dK kvs) ∧ ∀ o, t (D.back H a o kvs) σ (fz H a o kvs)) := by
  intro pins s σ H D I q
  obtain ⟨a, kvs, r, q⟩ := q
  obtain ⟨o, I1, ho⟩ := I.fzs r
  refine thn (h pins s σ _ _ I1 (q o)) fun f s' z => ?_
  cases f with
  | next =>
    obtain ⟨σ', H', I2, e, q2⟩ := z
    exact ⟨σ', _, I.backed r I2 e ho, q2⟩
  | brk =>
    obtain ⟨σ', H', I2, e, q2⟩ := z
    exact ⟨σ', _, I.backed r I2 e ho, q2⟩
  | cont =>
    obtain ⟨σ', H', I2, e, q2⟩ := z
    exact ⟨σ', _, I.backed r I2 e ho, q2⟩
  | ret u =>
    obtain ⟨v, σ', H', I2, rv, e, q2⟩ := z
    exact ⟨v, σ', _, I.backed r I2 e ho, rv, q2⟩
theorem pe_frz {e : Expr} {t : TE} (h : PE X e t) : PE X e (fun σ H Q => ∃ a kvs, Rd H a (.dK kvs) ∧ ∀ o, t σ (fz H a o kvs) fun v H2 => H2 a = some (.frz o (.dK kvs)) ∧ Q v (back H a H2)) := by
  intro pins s σ H Q I q
  obtain ⟨a, kvs, r, q⟩ := q
  obtain ⟨o, I1, ho⟩ := I.fzs r
  refine thn (h pins s σ _ _ I1 (q o)) fun u s' ⟨v, H2, I2, rv, e, q2⟩ => ?_
  exact ⟨v, _, I.backed r I2 e ho, rv, q2⟩
end
/-! ### the walk -/
/-- the keys of a dict that is as it stands -/
def Itd (a : Addr) (o : Obj) (kvs : List (Key × V)) : It :=
  ⟨fun i H => H a = some (.frz o (.dK kvs)) ∧ i < kvs.length, fun i H x H' => H' = H ∧ ∃ k v, kvs[i]? = some (k, v) ∧ x = kV k, fun i H => H a = some (.frz o (.dK kvs)) ∧ kvs.length ≤ i⟩
theorem kv_get {kvs : List (Key × V)} {vs : List (Key × Value)} (r : KV kvs vs) {i : Nat} {k : Key} {v : V} (h : kvs[i]? = some (k, v)) : ∃ u, vs[i]? = some (k, u) ∧ RelV v u := by
  induction r generalizing i with
  | nil => simp at h
  | @cons p q l1 l2 hp t ih =>
    cases i with
    | zero =>
      simp only [List.getElem?_cons_zero, Option.some.injEq] at h ⊢
      obtain ⟨q1, q2⟩ := q
      rw [h] at hp
      obtain ⟨h1, h2⟩ := hp
      simp only at h1 h2
      exact ⟨q2, by rw [h1], h2⟩
    | succ i =>
      simp only [List.getElem?_cons_succ] at h ⊢
      exact ih h
theorem relV_key {k : Key} {v : Value} (h : keyIs k v = true) : RelV (kV k) v := by
  rcases keyIs_shape h with ⟨i, t, rfl, rfl⟩ | ⟨x, t, rfl, rfl⟩
  · exact ⟨t, rfl⟩
  · exact ⟨t, rfl⟩
theorem turn_dict {P : Program} {w : World} {K : PySem.W.Frag} {tg : Expr} (a it : Addr) (o : Obj) (kvs : List (Key × V)) (n ep : Nat) (es : Array DictEntry) (hn : n = kvs.length) (hd : o.data = .dict es ep) : Turn P w K tg (Itd a o kvs) [it] it (fun i h => h.IsKeyIter it a i n ep) where
  mem := by simp
  obj := fun i h st b hb => by
    have e : b = it := by simpa using hb
    subst e
    obtain ⟨o, e, c, d⟩ := st
    exact ⟨o, e, fun v z => by rw [d] at z; cases z⟩
  keep := fun i h h' st k => st.at fun o e => k it (by simp) o e
  item := by
    intro X hP hw hK hc i pins s σ H E I hf st hg
    subst hP hw hK hn
    obtain ⟨hq, hi⟩ := hg
    obtain ⟨hob, _, hsys, vs, rel, dd⟩ := (show ObjOk X.prog X.w H s.heap a (.frz o (.dK kvs)) from I.hok a _ hq)
    obtain ⟨o', es', ep', g1, g2, g3, g4⟩ := dd
    rw [hob] at g1
    cases g1
    rw [hd] at g3
    cases g3
    have hvl := rel.length
    have hD : s.heap.DictAt (mixKind X.prog X.w) a vs ep := ⟨o, es, hob, g2, hd, g4⟩
    obtain ⟨f0, f1, f2, f3, f4, f5⟩ := hf it (by simp)
    obtain ⟨u, hu, ru⟩ := kv_get rel (k := kvs[i].1) (v := kvs[i].2) (List.getElem?_eq_getElem hi)
    rw [hvl] at st
    refine wpAny_pyNext_dict_item st hD hu fun key h' hk st' sb => ?_
    have I1 : Inv X pins σ H { s with heap := h' } := I.turned (t' := s.toks) (fun b o hb e => (sb.2 b hb).trans e) f0 f1 f3 f4 f5
    obtain ⟨oi, e, c, d⟩ := id st'
    rw [← hvl] at st'
    exact ⟨key, rfl, go_of (s := { s with heap := h' }) e c d (by decide) ⟨kV kvs[i].1, H, I1, relV_key hk, ⟨rfl, kvs[i].1, kvs[i].2, List.getElem?_eq_getElem hi, rfl⟩, st', fun b hb => (hf b hb).1⟩⟩
  done := by
    intro X hP hw hK hc i pins s σ H E I hf st hg
    subst hP hw hK hn
    obtain ⟨hq, hi⟩ := hg
    obtain ⟨hob, _, hsys, vs, rel, dd⟩ := (show ObjOk X.prog X.w H s.heap a (.frz o (.dK kvs)) from I.hok a _ hq)
    obtain ⟨o', es', ep', g1, g2, g3, g4⟩ := dd
    rw [hob] at g1
    cases g1
    rw [hd] at g3
    cases g3
    have hvl := rel.length
    have hD : s.heap.DictAt (mixKind X.prog X.w) a vs ep := ⟨o, es, hob, g2, hd, g4⟩
    obtain ⟨f0, f1, f2, f3, f4, f5⟩ := hf it (by simp)
    rw [hvl] at st
    exact wpAny_pyNext_dict_end (I.ok.hd hc) st hD (List.getElem?_eq_none (by omega)) fun h' eb => ⟨rfl, I.turned (t' := s.toks) (fun b o hb e => eb b o hb e) f0 f1 f3 f4 f5⟩
  self := fun _ _ _ _ _ st h => wpAny_pyIter_keyiter st h
section
variable {X : Cx} {tg l : Expr} {tl : TE}
/-- for k in d (within ps_frz or pe_frz) -/
theorem pi_dict (hl : PE X l tl) : PI X tg l (fun σ H R => tl σ H fun x H1 => ∃ a o kvs, x = .ref a ∧ H1 a = some (.frz o (.dK kvs)) ∧ R (Itd a o kvs) H1) := by
  intro pins s σ H R I h
  refine thn (hl pins s σ H _ I h) fun v s1 ⟨x, H1, I1, r1, q1⟩ => ?_
  obtain ⟨a, o, kvs, e, hq, q⟩ := q1
  subst e
  cases r1
  obtain ⟨hob, _, hsys, vs, rel, dd⟩ := (show ObjOk X.prog X.w H1 s1.heap a (.frz o (.dK kvs)) from I1.hok a _ hq)
  obtain ⟨o', es, ep, g1, g2, g3, g4⟩ := dd
  rw [hob] at g1
  cases g1
  have hvl := rel.length
  refine wpAny_pyIter_dict (knd := mixKind X.prog X.w) hsys ⟨o, es, hob, g2, g3, g4⟩ ?_
  refine ⟨s1.heap.objs.size, [s1.heap.objs.size], _, _, H1, rfl, I1.kept (t' := s1.toks) fun b o e => Heap.get?_push_of_some _ e, turn_dict a _ o kvs vs.length ep es hvl.symm g3, ⟨_, Heap.get?_push_size _ rfl, rfl, rfl⟩, fun b hb => ?_, q⟩
  have e : b = s1.heap.objs.size := by simpa using hb
  subst e
  exact I1.fpOk (Nat.le_refl _) (I1.hok.fresh (Nat.le_refl _))
end
theorem for_dict {a : Addr} {o : Obj} {kvs : List (Key × V)} {g : TG} {tb : TS} {D : Ends} {σ : St} {H : Hp} (Pv : Nat → St → Hp → Prop) (h0 : Pv 0 σ H) (hl : ∀ i σ H, i ≤ kvs.length → Pv i σ H → H a = some (.frz o (.dK kvs)))
    (hs : ∀ i k v σ H, kvs[i]? = some (k, v) → Pv i σ H → g (kV k) σ H fun σ2 H2 => tb { D with nx := Pv (i + 1), ct := Pv (i + 1), bk := D.nx } σ2 H2) (hd : ∀ σ H, Pv kvs.length σ H → D.nx σ H) :
    ∃ W : Nat → Nat → St → Hp → Prop, (∃ m, W 0 m σ H) ∧ ∀ i m σ H, W i m σ H →
      ((Itd a o kvs).stop i H ∧ D.nx σ H) ∨ ((Itd a o kvs).go i H ∧ ∃ N : St → Hp → Prop, (∀ σ' H', N σ' H' → ∃ m', m' < m ∧ W (i + 1) m' σ' H') ∧ ∀ x H', (Itd a o kvs).yld i H x H' → g x σ H' fun σ2 H2 => tb { D with nx := N, ct := N, bk := D.nx } σ2 H2) := by
  refine ⟨fun i m σ H => m = kvs.length - i ∧ i ≤ kvs.length ∧ Pv i σ H, ⟨kvs.length, by simp, Nat.zero_le _, h0⟩, ?_⟩
  rintro i m σ H ⟨rfl, hi, p⟩
  have q := hl i σ H hi p
  by_cases hlt : i < kvs.length
  · refine .inr ⟨⟨q, hlt⟩, Pv (i + 1), fun σ' H' p' => ⟨kvs.length - (i + 1), by omega, rfl, hlt, p'⟩, fun x H' y => ?_⟩
    obtain ⟨rfl, k, v, hk, rfl⟩ := y
    exact hs i k v σ _ hk p
  · have e : i = kvs.length := by omega
    subst e
    exact .inl ⟨⟨q, Nat.le_refl _⟩, hd σ H p⟩
theorem lc_dict {a : Addr} {o : Obj} {kvs : List (Key × V)} {D : Addr} {g : TG} {tc : TT} {te : TE} {σ0 : St} {H : Hp} {Q : VK} (Pv : Nat → St → Hp → Prop) (h0 : Pv 0 σ0 H) (hl : ∀ i σ H, i ≤ kvs.length → Pv i σ H → H a = some (.frz o (.dK kvs)))
    (hs : ∀ i k v σ H, kvs[i]? = some (k, v) → Pv i σ H → g (kV k) σ H fun σ2 H3 => tc σ2 H3 fun ok H4 =>
      if ok = true then te σ2 H4 fun y H5 => ∃ ys, H5 D = some (.lst ys) ∧ ys.length < sizeLine ∧ Pv (i + 1) σ2 (upd H5 D (.lst (ys ++ [y]))) else Pv (i + 1) σ2 H4)
    (hd : ∀ σ H, Pv kvs.length σ H → Q (.ref D) H) : LcW (Itd a o kvs) D g tc te Q σ0 H := by
  refine lc_by kvs.length Pv h0 (fun i σ H hi p => ⟨hl i σ H (Nat.le_of_lt hi) p, hi⟩) (fun σ H p => ⟨hl _ σ H (Nat.le_refl _) p, Nat.le_refl _⟩) (fun i x σ H H2 hi p y => ?_) hd
  obtain ⟨rfl, k, v, hk, rfl⟩ := y
  exact hs i k v σ _ hk p
/-! ### what stays -/
theorem tk_fz {H : Hp} {a : Addr} {o : Obj} {kvs : List (Key × V)} (r : Rd H a (.dK kvs)) : TK H (fz H a o kvs) := fun b xs e => by
  rw [fz_ne (fun z => by rw [z] at e; rcases r with r | ⟨o', r⟩ <;> (rw [r] at e; cases e))]
  exact e
theorem fz_free {H : Hp} {a b : Addr} {o : Obj} {kvs : List (Key × V)} (e : fz H a o kvs b = none) : b ≠ a ∧ H b = none := by
  have n : b ≠ a := fun z => by subst z; rw [fz_at] at e; cases e
  exact ⟨n, by rw [fz_ne n] at e; exact e⟩
theorem same_back {H H2 : Hp} {a : Addr} {o : Obj} {kvs : List (Key × V)} (h : Same (fz H a o kvs) H2) : Same H (back H a H2) := fun b u e => by
  by_cases z : b = a
  · subst z; rw [back_at]; exact e
  · rw [back_ne z]
    exact h b u (by rw [fz_ne z]; exact e)
theorem back_fz {H H2 : Hp} {a : Addr} {o : Obj} {kvs : List (Key × V)} (h : Same (fz H a o kvs) H2) : H2 a = some (.frz o (.dK kvs)) := h a _ fz_at
theorem Same.rd {H H' : Hp} {a : Addr} {u : HO} (h : Same H H') (r : Rd H a u) : Rd H' a u := by
  rcases r with r | ⟨o, r⟩
  · exact .inl (h _ _ r)
  · exact .inr ⟨o, h _ _ r⟩
end L2

namespace L2
open PySem PySem.Spec PyProof.Rows
section
variable {X : Cx}
/-- len of a dict, also of one that a loop walks -/
theorem call_lenR : CallR X (.builtin "len") (fun xs H Q => ∃ a kvs, xs = [V.ref a] ∧ Rd H a (.dK kvs) ∧ Q (.int kvs.length) H) := by
  intro pins s σ H xs us Q I r h
  obtain ⟨a, kvs, rfl, ha, q⟩ := h
  obtain ⟨u, rfl, rx⟩ := vals1 r
  cases rx
  obtain ⟨z, hd, vs, rel, dd⟩ := dk_rd I.hok ha
  have hl := rel.length
  refine call_len_dict hd dd (by rw [sizeLine_eq] at z; omega) ⟨.int kvs.length, H, I.tok _, ?_, q⟩
  rw [hl]
  exact ⟨_, rfl⟩
/-- list(d): the keys -/
theorem call_listD (hc : X.calm = true) : CallR X (.type "list") (fun xs H Q => ∃ p kvs, xs = [.ref p] ∧ Rd H p (.dK kvs) ∧ ∀ l, H l = none → Q (.ref l) (upd H l (.lst (kvs.map fun kv => kV kv.1)))) := by
  intro pins s σ H xs us Q I r h
  obtain ⟨p, kvs, rfl, hp, q⟩ := h
  obtain ⟨u, rfl, rx⟩ := vals1 r
  cases rx
  obtain ⟨z, hd, vs, rel, dd⟩ := dk_rd I.hok hp
  obtain ⟨ep, hD⟩ := dd.dictAt
  have hl := rel.length
  refine PySem.W.kdl_call (PySem.W.kdl_dict (ep := ep) hd) (by show X.A.handled = none; exact I.ok.hd hc) hD (by omega) fun h' tk acc c hk hS hacc => ?_
  have hn : H s.heap.objs.size = none := I.hok.fresh (Nat.le_refl _)
  refine ⟨.ref s.heap.objs.size, _, I.laid (t' := tk) (fun b o e => hk b o e) (Nat.le_refl _) (show ObjOk X.prog X.w _ h' _ (.lst (kvs.map fun kv => kV kv.1)) from ⟨by rw [List.length_map]; exact z, acc.toList, c, ?_, by simpa using hS⟩), rfl, q _ hn⟩
  obtain ⟨a1, a2⟩ := hacc
  have gen : ∀ (n : Nat) (kvs : List (Key × V)) (vs : List (Key × Value)) (us : List Value), kvs.length = n → KV kvs vs → us.length = vs.length → (∀ (j : Nat) (v : Value), us[j]? = some v → ∃ k x, vs[j]? = some (k, x) ∧ (mixKind X.prog X.w).is k v = true) → Vals (kvs.map fun kv => kV kv.1) us := by
    intro n
    induction n with
    | zero =>
      intro kvs vs us h0 hkv hlen _
      have e : kvs = [] := List.length_eq_zero_iff.mp h0
      subst e
      cases hkv
      have : us = [] := List.length_eq_zero_iff.mp (by simpa using hlen)
      subst this
      exact .nil
    | succ n ih =>
      intro kvs vs us h0 hkv hlen ha
      cases hkv with
      | nil => simp at h0
      | @cons p q l1 l2 hpq t =>
        cases us with
        | nil => simp at hlen
        | cons u us =>
          obtain ⟨k, x, e1, e2⟩ := ha 0 u rfl
          simp only [List.getElem?_cons_zero, Option.some.injEq] at e1
          refine .cons ?_ (ih l1 l2 us (by simpa using h0) t (by simpa using hlen) fun j v hj => ?_)
          · have : p.1 = k := by rw [hpq.1, e1]
            show RelV (kV p.1) u
            rw [this]
            exact relV_key e2
          · obtain ⟨k', x', e1', e2'⟩ := ha (j + 1) v (by simpa using hj)
            exact ⟨k', x', by simpa using e1', e2'⟩
  exact gen kvs.length kvs vs acc.toList rfl rel (by simpa using a1) fun j v hj => a2 j v (by simpa using hj)
/-- dict(d) -/
theorem call_dictD : CallR X (.type "dict") (fun xs H Q => ∃ p kvs, xs = [.ref p] ∧ Rd H p (.dK kvs) ∧ ∀ l, H l = none → Q (.ref l) (upd H l (.dK kvs))) := by
  intro pins s σ H xs us Q I r h
  obtain ⟨p, kvs, rfl, hp, q⟩ := h
  obtain ⟨u, rfl, rx⟩ := vals1 r
  cases rx
  obtain ⟨z, hd, vs, rel, dd⟩ := dk_rd I.hok hp
  have hl := rel.length
  refine kt_call_dict hd dd (by omega) fun h' hD hS => ?_
  have hn : H s.heap.objs.size = none := I.hok.fresh (Nat.le_refl _)
  obtain ⟨_, hsys, _⟩ := (show ObjOk X.prog X.w H (s.heap.push { cls := .type "dict", data := .dict #[] }) s.heap.objs.size (.dK []) from dk_empty s.heap I.big)
  refine ⟨.ref s.heap.objs.size, _, I.laid (t' := s.toks) (fun b o e => (hS.2 b (Nat.ne_of_lt (Heap.lt_size e))).trans (Heap.get?_push_of_some _ e)) (Nat.le_refl _) (show ObjOk X.prog X.w _ h' _ (.dK kvs) from ⟨z, hsys, vs, rel, hD⟩), rfl, q _ hn⟩
end
/-! ### d == e, of the same pairs -/
/-- the same in two dicts -/
inductive SameW (K : PySem.W.Frag) (H : Hp) : V → V → Prop where
  | non : SameW K H .non .non
  | int (i : Int) : SameW K H (.int i) (.int i)
  | bl (b : Bool) : SameW K H (.bl b) (.bl b)
  | lst {l b : Addr} {ns : List Int} (h1 : SqL K H l (ns.map V.int)) (h2 : SqL K H b (ns.map V.int)) : SameW K H (.ref l) (.ref b)
theorem SameW.eqAt {X : Cx} {pins : List (Addr × Obj)} {σ : St} {H : Hp} {s : Shared} {A : Around} {x y : V} {u v : Value} (I : Inv X pins σ H s) (hu : A.units < cLine) (h : SameW X.K H x y) (rx : RelV x u) (ry : RelV y v) : SeqAt.EqAt A s u v true := by
  cases h with
  | non => cases rx; cases ry; exact SeqAt.EqAt.same _
  | int i =>
    obtain ⟨t, rfl⟩ := rx
    obtain ⟨t', rfl⟩ := ry
    have := SeqAt.EqAt.int_int (A := A) (s := s) i t i t'
    rw [show (i == i) = true by simp] at this
    exact this
  | bl b => cases rx; cases ry; exact SeqAt.EqAt.same _
  | @lst l b ns h1 h2 =>
    cases rx; cases ry
    by_cases e : l = b
    · subst e; exact SeqAt.EqAt.same _
    · obtain ⟨its, r1, p1, _⟩ := I.list h1
      obtain ⟨its2, r2, p2, _⟩ := I.list h2
      have i1 := intsAre_of r1
      have i2 := intsAre_of r2
      have l1 := i1.length
      have l2 := i2.length
      refine SeqAt.EqAt.of_refs e ?_
      have := SeqAt.RcAt.lists (e := fun _ => true) p1.isList p2.isList (by simp; omega) hu (fun j h1 h2 => by
        have hj : j < ns.length := by simp at h1; omega
        obtain ⟨t, e1⟩ : ∃ t, its[j]'(by simpa using h1) = Value.int ns[j] t := by
          obtain ⟨u, hu, ru⟩ := r1.get (i := j) (x := V.int ns[j]) (by rw [List.getElem?_map, List.getElem?_eq_getElem hj]; rfl)
          obtain ⟨t, rfl⟩ := ru
          exact ⟨t, by rw [List.getElem?_eq_getElem (by simpa using h1)] at hu; exact Option.some.inj hu⟩
        obtain ⟨t', e2⟩ : ∃ t, its2[j]'(by simpa using h2) = Value.int ns[j] t := by
          obtain ⟨u, hu, ru⟩ := r2.get (i := j) (x := V.int ns[j]) (by rw [List.getElem?_map, List.getElem?_eq_getElem hj]; rfl)
          obtain ⟨t, rfl⟩ := ru
          exact ⟨t, by rw [List.getElem?_eq_getElem (by simpa using h2)] at hu; exact Option.some.inj hu⟩
        have := SeqAt.EqAt.int_int (A := A.in1) (s := s) ns[j] t ns[j] t'
        rw [show (ns[j] == ns[j]) = true by simp] at this
        show SeqAt.EqAt A.in1 s its[j] its2[j] true
        rw [e1, e2]
        exact this)
      rw [show ((List.range its.toArray.size).all fun _ => true) = true from List.all_eq_true.mpr fun _ _ => rfl] at this
      exact this
end L2

namespace CW
open PySem PySem.Spec PyProof.Rows
section
variable {prog : Program} {w : World} {A : Around} {E : Value → Shared → Prop} {s : Shared} {κ : Type} [DecidableEq κ] {knd : KeyKind prog w κ}
theorem pairs_len {es : List DictEntry} {kvs : List (κ × Value)} (p : Pairs knd es kvs) : es.length = kvs.length := by
  induction p with
  | nil => rfl
  | cons _ _ _ ih => simp [ih]
theorem pairs_find {es : List DictEntry} {kvs : List (κ × Value)} (p : Pairs knd es kvs) (nd : (kvs.map (·.1)).Nodup) {i : Nat} {k : κ} {v : Value} (h : kvs[i]? = some (k, v)) : ∃ e, es.findIdx? (fun e => knd.is k e.key) = some i ∧ es[i]? = some e ∧ e.val = v := by
  have hi : i < kvs.length := by
    rcases Nat.lt_or_ge i kvs.length with z | z
    · exact z
    · rw [List.getElem?_eq_none z] at h; cases h
  have e1 : kvs.findIdx? (fun kv => decide (kv.1 = k)) = some i := by
    rw [List.findIdx?_eq_some_iff_getElem]
    rw [List.getElem?_eq_getElem hi] at h
    have hk := Option.some.inj h
    refine ⟨hi, by rw [hk]; simp, fun j hj => ?_⟩
    have hjl : j < kvs.length := by omega
    simp only [decide_eq_true_eq]
    intro z
    have := (List.pairwise_iff_getElem.mp nd) j i (by simpa using hjl) (by simpa using hi) hj
    simp only [List.getElem_map] at this
    exact this (by rw [z, hk])
  rw [← p.findIdx k] at e1
  have hlen : es.length = kvs.length := pairs_len p
  have hie : i < es.length := by omega
  exact ⟨es[i], e1, List.getElem?_eq_getElem hie, (p.get? (List.getElem?_eq_getElem hie) h).2⟩
theorem same_pairs {Q : Bool → Shared → Prop} {id : String} {a b : Addr} {vs1 vs2 : List (κ × Value)} (ha : (a == sysModules) = false) (hb : (b == sysModules) = false) (d1 : s.heap.DictOf knd a vs1) (d2 : s.heap.DictOf knd b vs2)
    (hp : vs1.length = vs2.length ∧ ∀ (i : Nat) (k : κ) (v : Value), vs1[i]? = some (k, v) → ∃ u, vs2[i]? = some (k, u) ∧ SeqAt.EqAt A s v u true) (q : Q true s) : wpAny (model prog w) A (Builtin.Dict.samePairs id a b) Q E s := by
  obtain ⟨o1, es1, ep1, g1, x1, dd1, ko1, pr1, nd1⟩ := d1
  obtain ⟨o2, es2, ep2, g2, x2, dd2, ko2, pr2, nd2⟩ := d2
  have l1 := pairs_len pr1
  have l2 := pairs_len pr2
  unfold Builtin.Dict.samePairs Builtin.Dict.showsAll
  rw [ha, hb]
  refine wpAny_bind (wpAny_pure (wpAny_bind (wpAny_pure ?_)))
  refine wpAny_bind (wpAny_dictEntries g1 dd1 (wpAny_bind (wpAny_dictEntries g2 dd2 ?_)))
  have hs : es1.size = es2.size := by
    have e1 : es1.size = es1.toList.length := by simp
    have e2 : es2.size = es2.toList.length := by simp
    omega
  rw [if_neg (by rw [hs]; simp)]
  refine wpAny_bind (wpAny_dictEpoch g1 dd1 ?_)
  refine wpAny_bind ?_
  rw [Std.Legacy.Range.forIn_eq_forIn_range']
  refine wpAny_forIn_list _ (fun l b s' => s' = s ∧ b = (none, ()) ∧ ∃ k, l = List.range' k (es1.size - k) ∧ k ≤ es1.size) _ ?_ ?_ _ _ ⟨rfl, rfl, 0, ?_, Nat.zero_le _⟩
  · rintro i rest bb s' ⟨rfl, rfl, k, hl, hk⟩
    have hlt : k < es1.size := by
      rcases Nat.lt_or_ge k es1.size with z | z
      · exact z
      · rw [Nat.sub_eq_zero_of_le z] at hl; cases hl
    obtain ⟨m, hm⟩ : ∃ m, es1.size - k = m + 1 := ⟨es1.size - k - 1, by omega⟩
    rw [hm, List.range'_succ] at hl
    obtain ⟨rfl, rfl⟩ : i = k ∧ rest = List.range' (k + 1) m := by
      injection hl with y1 y2
      exact ⟨y1, y2⟩
    refine wpAny_bind (wpAny_dictEntries g1 dd1 ?_)
    rw [Array.getElem?_eq_getElem hlt]
    have hkl : i < vs1.length := by rw [← l1]; simpa using hlt
    obtain ⟨u, hu, he⟩ := hp.2 i vs1[i].1 vs1[i].2 (List.getElem?_eq_getElem hkl)
    have hg1 : es1.toList[i]? = some es1[i] := by simp [hlt]
    obtain ⟨hk1, hv1⟩ := pr1.get? hg1 (k := vs1[i].1) (v := vs1[i].2) (List.getElem?_eq_getElem hkl)
    obtain ⟨e2, hf2, hg2, hv2⟩ := pairs_find pr2 nd2 hu
    have hh : es1[i].hash = knd.hash vs1[i].1 := by
      obtain ⟨k', hk', hash'⟩ := ko1 es1[i] (Array.getElem_mem hlt)
      rw [hash', knd.inj _ _ _ hk' hk1]
    show wpAny _ _ (holding [es1[i].key, es1[i].val] _ >>= _) _ _ _
    refine wpAny_bind (wpAny_holding (wpAny_bind ?_))
    rw [hh]
    refine wpAny_dictFind_of hk1 g2 dd2 ko2 ?_
    have hfa : es2.findIdx? (fun e => knd.is vs1[i].1 e.key) = some i := by
      rw [← List.findIdx?_toArray] at hf2; exact hf2
    rw [hfa]
    refine wpAny_bind (wpAny_dictEntries g2 dd2 ?_)
    have hg2' : es2[i]? = some e2 := by simpa using hg2
    rw [hg2']
    show wpAny _ _ (holding [e2.val] (eqBool es1[i].val e2.val)) _ _ _
    refine wpAny_holding ?_
    rw [hv1, hv2]
    refine he _ _ _ _ ?_
    rw [if_neg (by simp)]
    refine wpAny_bind (wpAny_dictEpoch g1 dd1 ?_)
    rw [if_neg (by simp)]
    exact wpAny_pure ⟨rfl, rfl, i + 1, by rw [show es1.size - (i + 1) = m by omega], by omega⟩
  · rintro bb s' ⟨rfl, rfl, _⟩
    exact wpAny_pure q
  · show List.range' 0 _ 1 = _
    congr 1
    simp [Std.Legacy.Range.size]
end
end CW
namespace CW
open PySem PySem.Spec PyProof.Rows
section
variable {prog : Program} {w : World} {A : Around} {E : Value → Shared → Prop} {s : Shared} {κ : Type} [DecidableEq κ] {knd : KeyKind prog w κ}
theorem dict_ne {Q : Value → Shared → Prop} {a b : Addr} {vs1 vs2 : List (κ × Value)} (ha : (a == sysModules) = false) (hb : (b == sysModules) = false) (d1 : s.heap.DictOf knd a vs1) (d2 : s.heap.DictOf knd b vs2) (hu : A.units < cLine)
    (hp : vs1.length = vs2.length ∧ ∀ (i : Nat) (k : κ) (v : Value), vs1[i]? = some (k, v) → ∃ u, vs2[i]? = some (k, u) ∧ SeqAt.EqAt A.in1 s v u true) (q : Q (.bool false) s) : wpAny (model prog w) A (compareOp .NotEq (.ref a) (.ref b)) Q E s := by
  show wpAny _ _ (richCompare .NotEq (.ref a) (.ref b)) _ _ s
  refine wpAny_richCompare_same_room d1.typeIs d2.typeIs PySem.F.slot_dict_ne ?_ hu
  refine wpAny_call_entry PySem.F.slot_dict_ne d1.typeIs PySem.F.entry_dict_ne ?_ (PySem.F.args_dict_ne_2 _ _)
  unfold Builtin.«dict.__ne__»
  show wpAny _ _ (do
    let __x ← Builtin.Dict.dictSlotArgs "__ne__" ⟨[.ref a, .ref b], []⟩
    match __x with
      | (self, other) => do
        let __do_lift ← isInstance other (Value.type "dict")
        if (!__do_lift) = true then do
            rule (toString "dict." ++ toString "__ne__" ++ toString ".not-a-dict")
            ret Value.notImplemented
          else do
            let __do_lift ← Builtin.Dict.addrOf self
            let __do_lift_1 ← Builtin.Dict.addrOf other
            let __do_lift ← Builtin.Dict.samePairs (toString "dict." ++ toString "__ne__") __do_lift __do_lift_1
            ret (Value.bool (__do_lift == false))) _ _ s
  unfold Builtin.Dict.dictSlotArgs
  refine wpAny_bind (wpAny_bind (wpAny_notOrdered_dict d1.typeIs (wpAny_bind ?_)))
  show wpAny _ _ (pure (Value.ref a, [Value.ref b])) _ _ s
  refine wpAny_pure (wpAny_pure ?_)
  show wpAny _ _ (isInstance (.ref b) (.type "dict") >>= _) _ _ s
  refine wpAny_bind ?_
  unfold isInstance
  refine wpAny_bind (wpAny_typeOf d2.typeIs ?_)
  rw [isSubtype_dict_dict]
  refine wpAny_pure ?_
  rw [if_neg (by simp)]
  show wpAny _ _ (pure a >>= fun x => pure b >>= fun y => Builtin.Dict.samePairs _ x y >>= fun r => ret (Value.bool (r == false))) _ _ s
  refine wpAny_bind (wpAny_pure (wpAny_bind (wpAny_pure (wpAny_bind (same_pairs ha hb d1 d2 hp ?_)))))
  refine wpAny_pure ⟨_, rfl, ?_, q⟩
  intro z
  cases z
end
end CW
namespace L2
open PySem PySem.Spec PyProof.Rows
section
variable {X : Cx}
theorem kv_rel {kvs1 kvs2 : List (Key × V)} {vs1 vs2 : List (Key × Value)} {R : V → V → Prop} {T : Value → Value → Prop} (r1 : KV kvs1 vs1) (r2 : KV kvs2 vs2) (hp : Paired (fun p q : Key × V => p.1 = q.1 ∧ R p.2 q.2) kvs1 kvs2) (hR : ∀ x y u v, R x y → RelV x u → RelV y v → T u v) :
    vs1.length = vs2.length ∧ ∀ (i : Nat) (k : Key) (v : Value), vs1[i]? = some (k, v) → ∃ u, vs2[i]? = some (k, u) ∧ T v u := by
  induction hp generalizing vs1 vs2 with
  | nil =>
    cases r1; cases r2
    exact ⟨rfl, fun i k v h => by simp at h⟩
  | @cons p q l1 l2 hpq t ih =>
    cases r1 with
    | @cons _ p' _ m1 a1 t1 =>
      cases r2 with
      | @cons _ q' _ m2 a2 t2 =>
        obtain ⟨h1, h2⟩ := ih t1 t2
        refine ⟨by simp [h1], fun i k v h => ?_⟩
        cases i with
        | zero =>
          simp only [List.getElem?_cons_zero, Option.some.injEq] at h ⊢
          refine ⟨q'.2, ?_, ?_⟩
          · have : q'.1 = k := by rw [← a2.1, ← hpq.1, a1.1, h]
            rw [← this]
          · have e : p'.2 = v := by rw [h]
            rw [← e]
            exact hR _ _ _ _ hpq.2 a1.2 a2.2
        | succ i => exact h2 i k v (by simpa using h)
def rSameD (K : PySem.W.Frag) (r : Bool) : R2 := fun x y H Q => ∃ a b kvs1 kvs2, x = .ref a ∧ y = .ref b ∧ Rd H a (.dK kvs1) ∧ Rd H b (.dK kvs2) ∧ Paired (fun p q : Key × V => p.1 = q.1 ∧ SameW K H p.2 q.2) kvs1 kvs2 ∧ Q (.bl r) H
theorem op_neDict (hu : X.A.units + 64 < cLine) : OpR X (compareOp .NotEq) (rSameD X.K false) := by
  intro pins s σ H x y v u Q I rx ry h
  obtain ⟨a, b, kvs1, kvs2, rfl, rfl, h1, h2, hp, q⟩ := h
  cases rx; cases ry
  obtain ⟨_, hs1, vs1, r1, d1⟩ := dk_rd I.hok h1
  obtain ⟨_, hs2, vs2, r2, d2⟩ := dk_rd I.hok h2
  refine CW.dict_ne hs1 hs2 d1 d2 (by omega) (kv_rel r1 r2 hp fun x y u v hs rx ry => ?_) ⟨.bl false, H, I, rfl, q⟩
  exact hs.eqAt (A := X.A.in1) I (by show X.A.units + 1 < cLine; omega) rx ry
end
end L2

namespace L2
open PySem PySem.Spec PyProof.Rows
theorem map_eraseIdx' {α β : Type} (f : α → β) : ∀ (l : List α) (i : Nat), (l.eraseIdx i).map f = (l.map f).eraseIdx i
  | [], _ => by simp
  | a :: r, 0 => by simp
  | a :: r, i + 1 => by simp [map_eraseIdx' f r i]
section
variable {X : Cx}
/-- l.remove(k) of a list of whole numbers, k among them -/
def rRemove : V → List V → Hp → VK → Prop := fun x vs H Q => ∃ (l : Addr) (ns : List Int) (k : Int), x = .ref l ∧ vs = [.int k] ∧ H l = some (.lst (ns.map V.int)) ∧ k ∈ ns ∧ Q .non (upd H l (.lst ((ns.erase k).map V.int)))
theorem mt_remove : MtM X "list.remove" rRemove := by
  intro pins s σ H x vs v us Q I rx rv h
  obtain ⟨l, ns, k, rfl, rfl, hH, hk, q⟩ := h
  cases rx
  obtain ⟨u, rfl, ru⟩ := rv.one
  obtain ⟨t, rfl⟩ := ru
  obtain ⟨z, its, n, r, hl, e⟩ := I.lstM hH
  have hi := intsAre_of r
  have hlen := hi.length
  have hj : ns.idxOf k < ns.length := List.idxOf_lt_length_iff.mpr hk
  rw [List.length_map, sizeLine_eq] at z
  refine call_meets F.slot_list_remove ⟨_, e, rfl⟩ F.entry_list_remove (F.args_list_remove_2 _ _)
    (MeetsSeq.list_remove l its.toArray n (.int k t) (isInt k) (fun y hy => eq_isInt k t hi y (by simpa using hy)) (ns.idxOf k) (by simpa [hlen] using hj) ?_ ?_ (by simp only [List.size_toArray]; rw [sizeLine_eq]; omega)) ⟨e, ?_⟩
  · show isInt k its[ns.idxOf k] = true
    rw [isInt_at k hi _ (by omega) hj]
    simpa using List.getElem_idxOf hj
  · intro j hjs hlt
    show isInt k its[j] = false
    rw [isInt_at k hi j (by simpa using hjs) (by omega)]
    exact ne_of_lt_idxOf hlt _
  · have ee : (ns.erase k).map V.int = (ns.map V.int).eraseIdx (ns.idxOf k) := by rw [List.erase_eq_eraseIdx_of_idxOf rfl, map_eraseIdx']
    rw [ee] at q
    refine ⟨.non, _, I.lset (its' := its.eraseIdx (ns.idxOf k)) hH e ?_ (r.eraseIdx _) ?_, rfl, q⟩
    · show its.toArray.eraseIdxIfInBounds _ = (its.eraseIdx _).toArray
      rw [List.eraseIdxIfInBounds_toArray]
    · have := len_erase (ns.map V.int) (ns.idxOf k)
      rw [List.length_map] at this
      rw [sizeLine_eq]
      omega
end
end L2
namespace L2
open PySem PySem.Spec PyProof.Rows
section
variable {X : Cx}
theorem notIn_seqK (K : PySem.W.Frag) (hK : X.K = K) : OpR X (compareOp .NotIn) (rIn K true) := by
  subst hK
  exact op_notIn_seq
end
end L2
namespace L2
open PySem PySem.Spec PyProof.Rows
section
variable {X : Cx}
end
end L2

namespace Gm
open PySem L2
/-! # plans as data -/
abbrev Plan := List (Int × Option Int)
def ov : Option Int → V
  | none => .non
  | some i => .int i
def kvP (pl : Plan) : List (Key × V) := pl.map fun p => (Sum.inl p.1, ov p.2)
def look (pl : Plan) (k : Int) : Option (Option Int) := (pl.find? fun p => decide (p.1 = k)).map (·.2)
def putP (pl : Plan) (k : Int) (v : Option Int) : Plan := if (pl.any fun p => decide (p.1 = k)) = true then pl.map (fun p => if p.1 = k then (p.1, v) else p) else pl ++ [(k, v)]
theorem inl_iff {a b : Int} : ((Sum.inl a : Key) = Sum.inl b) ↔ a = b := ⟨Sum.inl.inj, fun e => by rw [e]⟩
theorem valV_kvP (pl : Plan) (k : Int) : valV (kvP pl) (Sum.inl k) = (look pl k).map ov := by
  unfold valV kvP look
  rw [List.find?_map]
  have : ((fun kv : Key × V => decide (kv.1 = Sum.inl k)) ∘ fun p : Int × Option Int => (Sum.inl p.1, ov p.2)) = fun p => decide (p.1 = k) := by
    funext p
    simp only [Function.comp, inl_iff]
  rw [this, Option.map_map, Option.map_map]
  rfl
theorem any_kvP (pl : Plan) (k : Int) : ((kvP pl).any fun kv => decide (kv.1 = Sum.inl k)) = (pl.any fun p => decide (p.1 = k)) := by
  unfold kvP
  rw [List.any_map]
  congr 1
  funext p
  simp only [Function.comp, inl_iff]
theorem putK_kvP (pl : Plan) (k : Int) (v : Option Int) : putK (kvP pl) (Sum.inl k) (ov v) = kvP (putP pl k v) := by
  unfold putK putP
  rw [any_kvP]
  by_cases h : (pl.any fun p => decide (p.1 = k)) = true
  · rw [if_pos h, if_pos h]
    unfold kvP
    rw [List.map_map, List.map_map]
    refine List.map_congr_left fun p _ => ?_
    simp only [Function.comp, inl_iff]
    by_cases e : p.1 = k
    · rw [if_pos e, if_pos e]
    · rw [if_neg e, if_neg e]
  · rw [if_neg h, if_neg h]
    unfold kvP
    rw [List.map_append]
    rfl
theorem kvP_len (pl : Plan) : (kvP pl).length = pl.length := by simp [kvP]
theorem kvP_get {pl : Plan} {i : Nat} {k : Key} {v : V} (h : (kvP pl)[i]? = some (k, v)) : ∃ j o, k = Sum.inl j ∧ v = ov o ∧ pl[i]? = some (j, o) := by
  unfold kvP at h
  rw [List.getElem?_map] at h
  cases e : pl[i]? with
  | none => rw [e] at h; cases h
  | some p =>
    rw [e] at h
    have := Option.some.inj h
    simp only [Prod.mk.injEq] at this
    exact ⟨p.1, p.2, this.1.symm, this.2.symm, rfl⟩
theorem look_some {pl : Plan} {k : Int} {v : Option Int} (h : look pl k = some v) : (k, v) ∈ pl := by
  unfold look at h
  cases e : pl.find? (fun p => decide (p.1 = k)) with
  | none => rw [e] at h; cases h
  | some p =>
    rw [e] at h
    have h1 : p.2 = v := Option.some.inj h
    have h2 : p.1 = k := by simpa using List.find?_some e
    have h3 := List.mem_of_find?_eq_some e
    rw [← h1, ← h2]
    exact h3
theorem look_of {pl : Plan} (nd : (pl.map (·.1)).Nodup) {k : Int} {v : Option Int} (h : (k, v) ∈ pl) : look pl k = some v := by
  induction pl with
  | nil => cases h
  | cons p r ih =>
    rw [List.map_cons, List.nodup_cons] at nd
    unfold look
    rw [List.find?_cons]
    rcases List.mem_cons.mp h with z | z
    · subst z
      simp
    · have : p.1 ≠ k := fun y => nd.1 (by rw [y]; exact List.mem_map.mpr ⟨(k, v), z, rfl⟩)
      rw [decide_eq_false this]
      exact ih nd.2 z
theorem look_isSome {pl : Plan} {k : Int} : (look pl k).isSome = true ↔ k ∈ pl.map (·.1) := by
  constructor
  · intro h
    obtain ⟨v, hv⟩ := Option.isSome_iff_exists.mp h
    exact List.mem_map.mpr ⟨(k, v), look_some hv, rfl⟩
  · intro h
    obtain ⟨p, hp, e⟩ := List.mem_map.mp h
    unfold look
    cases e2 : pl.find? (fun p => decide (p.1 = k)) with
    | none =>
      have := List.find?_eq_none.mp e2 p hp
      simp [e] at this
    | some q => rfl
theorem look_any {pl : Plan} {k : Int} : (pl.any fun p => decide (p.1 = k)) = (look pl k).isSome := by
  rw [Bool.eq_iff_iff, look_isSome, List.any_eq_true]
  constructor
  · rintro ⟨p, hp, e⟩
    exact List.mem_map.mpr ⟨p, hp, of_decide_eq_true e⟩
  · intro h
    obtain ⟨p, hp, e⟩ := List.mem_map.mp h
    exact ⟨p, hp, decide_eq_true e⟩
theorem putP_keys (pl : Plan) (k : Int) (v : Option Int) : (putP pl k v).map (·.1) = if (look pl k).isSome = true then pl.map (·.1) else pl.map (·.1) ++ [k] := by
  unfold putP
  rw [look_any]
  by_cases h : (look pl k).isSome = true
  · rw [if_pos h, if_pos h, List.map_map]
    refine List.map_congr_left fun p _ => ?_
    simp only [Function.comp]
    split <;> rfl
  · rw [if_neg h, if_neg h, List.map_append]
    rfl
theorem nd_putP {pl : Plan} (nd : (pl.map (·.1)).Nodup) (k : Int) (v : Option Int) : ((putP pl k v).map (·.1)).Nodup := by
  rw [putP_keys]
  by_cases h : (look pl k).isSome = true
  · rw [if_pos h]; exact nd
  · rw [if_neg h, List.nodup_append]
    refine ⟨nd, by simp, fun a ha b hb e => ?_⟩
    rw [List.mem_singleton] at hb
    subst hb e
    exact h (look_isSome.mpr ha)
theorem mem_putP {pl : Plan} {k : Int} {v : Option Int} {q : Int × Option Int} (h : q ∈ putP pl k v) : q = (k, v) ∨ (q ∈ pl ∧ q.1 ≠ k) := by
  unfold putP at h
  by_cases a : (pl.any fun p => decide (p.1 = k)) = true
  · rw [if_pos a] at h
    obtain ⟨p, hp, e⟩ := List.mem_map.mp h
    by_cases z : p.1 = k
    · rw [if_pos z] at e
      left; rw [← e, z]
    · rw [if_neg z] at e
      subst e
      exact .inr ⟨hp, z⟩
  · rw [if_neg a] at h
    rcases List.mem_append.mp h with z | z
    · refine .inr ⟨z, fun y => a (List.any_eq_true.mpr ⟨q, z, decide_eq_true y⟩)⟩
    · exact .inl (List.mem_singleton.mp z)
theorem putP_len (pl : Plan) (k : Int) (v : Option Int) : (putP pl k v).length ≤ pl.length + 1 := by
  unfold putP
  split <;> simp
theorem look_dget {H : Hp} {a : Addr} {pl : Plan} (r : Rd H a (.dK (kvP pl))) (k : Int) : DGet H a (.int k) ((look pl k).map ov) := .inl ⟨kvP pl, Sum.inl k, r, rfl, (valV_kvP pl k).symm⟩
theorem isSome_ov {o : Option (Option Int)} : (o.map ov).isSome = o.isSome := by cases o <;> rfl
/-- where a walk that follows the plan can go -/
def nxt (g : List Pl) (h : Int) (pl : Plan) (k : Int) : List Int := match g[k.toNat]? with
  | some p => if p.1 = h then (match look pl k with | some (some i) => [i] | _ => []) else p.2.2
  | none => []
def waysAt (g : List Pl) (k : Int) : List Int := match g[k.toNat]? with
  | some p => p.2.2
  | none => []
def keptB (g : List Pl) (h : Int) (pl : Plan) (k : Int) : Bool := (nxt g h pl k).all fun w => decide (w ∈ waysAt g k) && (look pl w).isSome
def keepAt (g : List Pl) (h : Int) (pl : Plan) (kv : Int × Option Int) : Bool := decide (0 ≤ kv.1) && (decide (kv.1 < (g.length : Int)) && keptB g h pl kv.1)
def keepsB (g : List Pl) (h : Int) (pl : Plan) : Bool := pl.all (keepAt g h pl)
structure PlOk (g : List Pl) (h : Int) (pl : Plan) : Prop where
  nd : (pl.map (·.1)).Nodup
  val : ∀ k v, (k, v) ∈ pl → ∀ p, 0 ≤ k → g[k.toNat]? = some p → p.1 = h → ∃ i, v = some i
theorem nxt_own {g : List Pl} {h : Int} {pl : Plan} {k i : Int} {p : Pl} (hp : g[k.toNat]? = some p) (e : p.1 = h) (hl : look pl k = some (some i)) : nxt g h pl k = [i] := by
  unfold nxt; rw [hp]; simp only []; rw [if_pos e, hl]
theorem nxt_other {g : List Pl} {h : Int} {pl : Plan} {k : Int} {p : Pl} (hp : g[k.toNat]? = some p) (e : ¬ p.1 = h) : nxt g h pl k = p.2.2 := by
  unfold nxt; rw [hp]; simp only []; rw [if_neg e]
theorem waysAt_of {g : List Pl} {k : Int} {p : Pl} (hp : g[k.toNat]? = some p) : waysAt g k = p.2.2 := by unfold waysAt; rw [hp]
/-- the copy is the same -/
theorem same_ov (K : PySem.W.Frag) (H : Hp) : ∀ o : Option Int, SameW K H (ov o) (ov o)
  | none => .non
  | some i => .int i
theorem same_kvP (K : PySem.W.Frag) (H : Hp) : ∀ pl : Plan, Paired (fun p q : Key × V => p.1 = q.1 ∧ SameW K H p.2 q.2) (kvP pl) (kvP pl)
  | [] => .nil
  | p :: r => .cons ⟨rfl, same_ov K H p.2⟩ (same_kvP K H r)
/-- of a game: the place -/
theorem gm_at {H H' : Hp} {ga : Addr} {vs : List V} {g : List Pl} (hga : H ga = some (.tup vs)) (hp : Paired (IsPl H) vs g) (tk : TK H H') {k : Int} {p : Pl} (h0 : 0 ≤ k) (hk : g[k.toNat]? = some p) :
    H' ga = some (.tup vs) ∧ ∃ pa pb, atI vs k = some (.ref pa) ∧ H' pa = some (.tup [.int p.1, .int p.2.1, .ref pb]) ∧ H' pb = some (.tup (p.2.2.map V.int)) := by
  obtain ⟨x, hx, ip⟩ := paired_get2 hp hk
  obtain ⟨pa, pb, rfl, ha, hb⟩ := ip.tk tk
  refine ⟨tk _ _ hga, pa, pb, ?_, ha, hb⟩
  have := atI_nat hx
  rw [show ((k.toNat : Nat) : Int) = k by omega] at this
  exact this
theorem get_lt {α : Type} {l : List α} {i : Nat} {x : α} (h : l[i]? = some x) : i < l.length := by
  rcases Nat.lt_or_ge i l.length with z | z
  · exact z
  · rw [List.getElem?_eq_none z] at h; cases h
theorem dput {H : Hp} {a : Addr} {pl : Plan} (h : H a = some (.dK (kvP pl))) (hl : pl.length < 10000) (k : Int) (v : Option Int) : DPut H a (.int k) (ov v) (upd H a (.dK (kvP (putP pl k v)))) :=
  .inl ⟨kvP pl, Sum.inl k, h, rfl, by rw [kvP_len, sizeLine_eq]; omega, by rw [putK_kvP]⟩
theorem PlOk.put {g : List Pl} {h : Int} {pl pl1 : Plan} {k : Int} {v : Option Int} (o : PlOk g h pl) (nd : (pl1.map (·.1)).Nodup) (sub : ∀ q ∈ pl1, q.1 ≠ k → q ∈ pl) (hv : ∀ p, 0 ≤ k → g[k.toNat]? = some p → p.1 = h → ∃ i, v = some i) : PlOk g h (putP pl1 k v) := by
  refine ⟨nd_putP nd k v, fun k' v' hm p h0 hp he => ?_⟩
  rcases mem_putP hm with z | ⟨z, y⟩
  · simp only [Prod.mk.injEq] at z
    obtain ⟨rfl, rfl⟩ := z
    exact hv p h0 hp he
  · exact o.val k' v' (sub _ z y) p h0 hp he
theorem pl_len {pl : Plan} {n : Nat} (nd : (pl.map (·.1)).Nodup) (h : ∀ kv ∈ pl, 0 ≤ kv.1 ∧ kv.1 < n) : pl.length ≤ n := by
  have := nodup_bound nd (m := n) (fun x hx => by
    obtain ⟨p, hp, e⟩ := List.mem_map.mp hx
    rw [← e]; exact h p hp)
  simpa using this
theorem PlOk.nil (g : List Pl) (h : Int) : PlOk g h [] := ⟨List.nodup_nil, fun k v hm => by cases hm⟩
theorem PlOk.sub {g : List Pl} {h : Int} {pl pl1 : Plan} (o : PlOk g h pl) (nd : (pl1.map (·.1)).Nodup) (sub : ∀ q ∈ pl1, q ∈ pl) : PlOk g h pl1 := ⟨nd, fun k v hm => o.val k v (sub _ hm)⟩
theorem neList (F : List Int) : (!PyData.eqv (.list (F.map PyData.int)) (.list [])) = !decide (F = []) := by
  have := eqvlist F []
  rw [List.map_nil] at this
  rw [this]
theorem take_filter_ext {l : List Int} {f : Int → Bool} {i : Nat} {x : Int} (h : l[i]? = some x) : (l.take (i + 1)).filter f = (l.take i).filter f ++ (if f x = true then [x] else []) := by
  rw [List.take_add_one, h, List.filter_append]
  congr 1
  simp only [Option.toList_some, List.filter_cons, List.filter_nil]
end Gm

namespace Gm
open PySem L2
/-! # what a walk reaches -/
def crw (g : List Pl) (k : Int) : Int := match g[k.toNat]? with
  | some p => p.2.1
  | none => 0
theorem crw_of {g : List Pl} {k : Int} {p : Pl} (h : g[k.toNat]? = some p) : crw g k = p.2.1 := by unfold crw; rw [h]
inductive Rch (N : Int → List Int) (cr : Int → Int) (c s : Int) : Int → Prop where
  | one {y : Int} : y ∈ N s → Rch N cr c s y
  | step {x y : Int} : Rch N cr c s x → cr x ≤ c → y ∈ N x → Rch N cr c s y
open Classical in
noncomputable def backB (N : Int → List Int) (cr : Int → Int) (s : Int) : Bool := decide (Rch N cr (cr s) s s)
theorem backB_iff {N : Int → List Int} {cr : Int → Int} {s : Int} : backB N cr s = true ↔ Rch N cr (cr s) s s := by
  unfold backB
  exact @decide_eq_true_iff _ (Classical.propDecidable _)
theorem backB_not {N : Int → List Int} {cr : Int → Int} {s : Int} (h : ¬ Rch N cr (cr s) s s) : backB N cr s = false := by
  cases e : backB N cr s with
  | false => rfl
  | true => exact absurd (backB_iff.mp e) h
structure Dfs (N : Int → List Int) (cr : Int → Int) (c s : Int) (met coming : List Int) : Prop where
  a : ∀ x ∈ coming, Rch N cr c s x
  b : ∀ x ∈ met, Rch N cr c s x ∧ cr x ≤ c
  c0 : ∀ y ∈ N s, y ∈ met ∨ y ∈ coming ∨ c < cr y
  c1 : ∀ x ∈ met, ∀ y ∈ N x, y ∈ met ∨ y ∈ coming ∨ c < cr y
  nd : met.Nodup
theorem Dfs.init {N : Int → List Int} {cr : Int → Int} {c s : Int} : Dfs N cr c s [] (N s) :=
  ⟨fun _ h => .one h, fun _ h => (by cases h), fun _ h => Or.inr (Or.inl h), fun _ h => (by cases h), List.nodup_nil⟩
theorem Dfs.skip {N : Int → List Int} {cr : Int → Int} {c s x : Int} {met l : List Int} (d : Dfs N cr c s met (l ++ [x])) (h : x ∈ met ∨ c < cr x) : Dfs N cr c s met l := by
  have go : ∀ y, (y ∈ met ∨ y ∈ l ++ [x] ∨ c < cr y) → (y ∈ met ∨ y ∈ l ∨ c < cr y) := fun y z => by
    rcases z with z | z | z
    · exact .inl z
    · rcases List.mem_append.mp z with z | z
      · exact .inr (.inl z)
      · rw [List.mem_singleton] at z
        subst z
        rcases h with h | h
        · exact .inl h
        · exact .inr (.inr h)
    · exact .inr (.inr z)
  exact ⟨fun y hy => d.a y (List.mem_append_left _ hy), d.b, fun y hy => go y (d.c0 y hy), fun z hz y hy => go y (d.c1 z hz y hy), d.nd⟩
theorem Dfs.take {N : Int → List Int} {cr : Int → Int} {c s x : Int} {met l : List Int} (d : Dfs N cr c s met (l ++ [x])) (h : x ∉ met) (hc : cr x ≤ c) : Dfs N cr c s (met ++ [x]) (l ++ N x) := by
  have rx : Rch N cr c s x := d.a x (by simp)
  have go : ∀ y, (y ∈ met ∨ y ∈ l ++ [x] ∨ c < cr y) → (y ∈ met ++ [x] ∨ y ∈ l ++ N x ∨ c < cr y) := fun y z => by
    rcases z with z | z | z
    · exact .inl (List.mem_append_left _ z)
    · rcases List.mem_append.mp z with z | z
      · exact .inr (.inl (List.mem_append_left _ z))
      · exact .inl (List.mem_append_right _ z)
    · exact .inr (.inr z)
  refine ⟨fun y hy => ?_, fun y hy => ?_, fun y hy => go y (d.c0 y hy), fun z hz y hy => ?_, ?_⟩
  · rcases List.mem_append.mp hy with z | z
    · exact d.a y (List.mem_append_left _ z)
    · exact .step rx hc z
  · rcases List.mem_append.mp hy with z | z
    · exact d.b y z
    · rw [List.mem_singleton] at z
      subst z
      exact ⟨rx, hc⟩
  · rcases List.mem_append.mp hz with z' | z'
    · exact go y (d.c1 z z' y hy)
    · rw [List.mem_singleton] at z'
      subst z'
      exact .inr (.inl (List.mem_append_right _ hy))
  · rw [List.nodup_append]
    refine ⟨d.nd, by simp, fun a ha b hb e => ?_⟩
    rw [List.mem_singleton] at hb
    subst hb e
    exact h ha
theorem Dfs.all {N : Int → List Int} {cr : Int → Int} {c s : Int} {met : List Int} (d : Dfs N cr c s met []) {y : Int} (r : Rch N cr c s y) (hy : cr y ≤ c) : y ∈ met := by
  have fin : ∀ y, cr y ≤ c → (y ∈ met ∨ y ∈ ([] : List Int) ∨ c < cr y) → y ∈ met := fun y hy z => by
    rcases z with z | z | z
    · exact z
    · cases z
    · omega
  induction r with
  | one h => exact fin _ hy (d.c0 _ h)
  | step _ hx h ih => exact fin _ hy (d.c1 _ (ih hx) _ h)
theorem Dfs.back {N : Int → List Int} {cr : Int → Int} {s : Int} {met : List Int} (d : Dfs N cr (cr s) s met []) : decide (s ∈ met) = backB N cr s := by
  by_cases h : s ∈ met
  · rw [decide_eq_true h]
    exact (backB_iff.mpr (d.b s h).1).symm
  · rw [decide_eq_false h]
    exact (backB_not fun r => h (d.all r (Int.le_refl _))).symm
/-- a plan that keeps -/
theorem keeps_in {g : List Pl} {h : Int} {pl : Plan} (hk : keepsB g h pl = true) {k : Int} (hm : k ∈ pl.map (·.1)) : 0 ≤ k ∧ k < g.length ∧ ∀ y ∈ nxt g h pl k, y ∈ pl.map (·.1) := by
  obtain ⟨kv, hkv, rfl⟩ := List.mem_map.mp hm
  have := List.all_eq_true.mp hk kv hkv
  unfold keepAt at this
  simp only [Bool.and_eq_true, decide_eq_true_eq] at this
  obtain ⟨h0, h1, h2⟩ := this
  refine ⟨h0, h1, fun y hy => ?_⟩
  have := List.all_eq_true.mp h2 y hy
  simp only [Bool.and_eq_true] at this
  exact look_isSome.mp this.2
theorem rch_in {g : List Pl} {h : Int} {pl : Plan} {cr : Int → Int} {c s : Int} (hk : keepsB g h pl = true) (hs : s ∈ pl.map (·.1)) {y : Int} (r : Rch (nxt g h pl) cr c s y) : y ∈ pl.map (·.1) := by
  induction r with
  | one h => exact (keeps_in hk hs).2.2 _ h
  | step _ _ h ih => exact (keeps_in hk ih).2.2 _ h
theorem nxt_len {g : List Pl} {h : Int} {pl : Plan} {n : Nat} (hw : ∀ p ∈ g, p.2.2.length ≤ n) (h1 : 1 ≤ n) (k : Int) : (nxt g h pl k).length ≤ n := by
  unfold nxt
  cases e : g[k.toNat]? with
  | none => simp
  | some p =>
    simp only []
    split
    · split
      · simpa using h1
      · simp
    · exact hw p (List.mem_of_getElem? e)
noncomputable def lostB (g : List Pl) (h : Int) (pl : Plan) : Bool := pl.any fun kv => decide (crw g kv.1 % 2 ≠ h) && backB (nxt g h pl) (crw g) kv.1
/-! # a dict that says what was met -/
theorem sub_len {pl : Plan} {ms : List Int} (nd : ms.Nodup) (h : ∀ x ∈ ms, x ∈ pl.map (·.1)) : ms.length ≤ pl.length := by
  have := nodup_le nd h
  simpa using this
theorem last_of {α : Type} {l : List α} {x : α} (h : l[l.length - 1]? = some x) : l = l.dropLast ++ [x] := by
  have hne : l ≠ [] := by
    intro z; subst z; cases h
  have := List.dropLast_concat_getLast hne
  rw [← List.getLast?_eq_getElem?, List.getLast?_eq_some_getLast hne] at h
  rw [← Option.some.inj h]
  exact this.symm
theorem take_filter_g {α : Type} {l : List α} {f : α → Bool} {i : Nat} {x : α} (h : l[i]? = some x) : (l.take (i + 1)).filter f = (l.take i).filter f ++ (if f x = true then [x] else []) := by
  rw [List.take_add_one, h, List.filter_append]
  congr 1
  simp only [Option.toList_some, List.filter_cons, List.filter_nil]
theorem neV (a b : Int) : (!decide (V.int a = V.int b)) = decide (a ≠ b) := by
  by_cases e : a = b
  · subst e; simp
  · rw [decide_eq_true e, decide_eq_false (fun z => e (V.int.inj z))]; rfl
theorem PlOk.own {g : List Pl} {h : Int} {pl : Plan} (o : PlOk g h pl) {k : Int} (hm : k ∈ pl.map (·.1)) {p : Pl} (h0 : 0 ≤ k) (hp : g[k.toNat]? = some p) (e : p.1 = h) : ∃ i, look pl k = some (some i) := by
  obtain ⟨kv, hkv, rfl⟩ := List.mem_map.mp hm
  obtain ⟨i, hi⟩ := o.val kv.1 kv.2 hkv p h0 hp e
  exact ⟨i, by rw [look_of o.nd hkv, hi]⟩
end Gm

namespace L2
open PySem PySem.Spec PyProof.Rows
/-! # d.update(e) -/
section
variable {X : Cx} {o e f : Expr} {apos cpos : Pos} {td ty tx : TE}
end
/-! # comprehensions over whole numbers -/
section
variable {K : PySem.W.Frag} {a D : Addr} {tc : TT} {te : TE} {L : List Int} {ρ : St} {H : Hp} {Q : VK}
theorem int_get {ws : List Int} {j : Nat} {y : V} (h : (ws.map V.int)[j]? = some y) : ∃ w, y = V.int w ∧ ws[j]? = some w ∧ w ∈ ws := by
  rw [List.getElem?_map] at h
  cases e : ws[j]? with
  | none => rw [e] at h; cases h
  | some w => rw [e] at h; exact ⟨w, (Option.some.inj h).symm, rfl, List.mem_of_getElem? e⟩
theorem map_step (F : Int → V) {i : Nat} {z : Int} {H2 : Hp} {s0 : Option V} (hl : L.length < 10000) (hD : H D = none) (hzi : L[i]? = some z) (hz : z ∈ L) (sm : Same H H2) (hD2 : H2 D = some (.lst ((L.take i).map F)))
    (hc : ∀ x ∈ L, ∀ H2, Same H H2 → ∀ Q' : VK, (∀ H4, Same H2 H4 → Q' (F x) H4) → te (some (.int x) :: ρ) H2 Q') :
    if true = true then te ((s0 :: ρ).set 0 (some (.int z))) H2 fun y H5 => ∃ ys, H5 D = some (.lst ys) ∧ ys.length < sizeLine ∧ (fun (i : Nat) (σ : St) H2 => (∃ s0, σ = s0 :: ρ) ∧ Same H H2 ∧ H2 D = some (.lst ((L.take i).map F))) (i + 1) ((s0 :: ρ).set 0 (some (.int z))) (upd H5 D (.lst (ys ++ [y])))
      else (fun (i : Nat) (σ : St) H2 => (∃ s0, σ = s0 :: ρ) ∧ Same H H2 ∧ H2 D = some (.lst ((L.take i).map F))) (i + 1) ((s0 :: ρ).set 0 (some (.int z))) H2 := by
  refine iteT (hc z hz H2 sm _ fun H4 sm4 => ?_)
  refine ⟨_, sm4 D _ hD2, ?_, ⟨_, rfl⟩, (sm.trans sm4).upd' hD, ?_⟩
  · rw [List.length_map, sizeLine_eq]
    have l2 := List.length_take_le' i L
    omega
  · rw [upd_same, List.take_add_one, hzi]
    simp
/-- [.. for x in l] -/
theorem lc_mapI (F : Int → V) (hL : H a = some (.lst (L.map V.int))) (hl : L.length < 10000) (hD : H D = none)
    (hc : ∀ x ∈ L, ∀ H2, Same H H2 → ∀ Q' : VK, (∀ H4, Same H2 H4 → Q' (F x) H4) → te (some (.int x) :: ρ) H2 Q')
    (hd : ∀ H', Same H H' → H' D = some (.lst (L.map F)) → Q (.ref D) H') : LcW (Itl K a) D (gName 0) (fun _ H Q => Q true H) te Q (none :: ρ) (upd H D (.lst [])) := by
  refine lc_list (xs := L.map V.int) (fun i σ H2 => (∃ s0, σ = s0 :: ρ) ∧ Same H H2 ∧ H2 D = some (.lst ((L.take i).map F))) ⟨⟨none, rfl⟩, Same.upd hD, upd_same⟩ (fun i σ H2 _ ⟨_, sm, _⟩ => SqL.of (sm a _ hL)) ?_ ?_
  · rintro i x σ H2 hi ⟨⟨s0, rfl⟩, sm, hD2⟩
    obtain ⟨z, rfl, hzi, hz⟩ := int_get hi
    exact map_step F hl hD hzi hz sm hD2 hc
  · rintro σ H2 ⟨_, sm, hD2⟩
    rw [List.length_map, List.take_length] at hD2
    exact hd H2 sm hD2
end
end L2
namespace Gm
open PySem L2
end Gm

namespace L2
open PySem PySem.Spec PyProof.Rows
/-! # list(range(..)) -/
section
variable {X : Cx} {a b : Expr} {ta : TA} {p1 p2 q1 q2 : Pos}
end
end L2

/-! # pulls: the mathematics -/
namespace P4
open Gm
def at' (st : List Int) (i : Nat) : Int := st.getD i (-1)
def thr (st : List Int) (w : Int) : Bool := decide (0 ≤ at' st w.toNat)
def drw (h : Int) (st : List Int) (p : Pl) : Bool := if p.1 = h then p.2.2.any (thr st) else p.2.2.all (thr st)
def cond (g : List Pl) (h : Int) (st : List Int) (i : Nat) : Bool := decide (at' st i < 0) && (match g[i]? with | some p => drw h st p | none => false)
def come (g : List Pl) (h : Int) (st : List Int) : List Nat := (List.range g.length).filter (cond g h st)
def stp (st : List Int) (c : List Nat) (a : Int) : List Int := c.foldl (fun s i => s.set i a) st
def fin (g : List Pl) (h : Int) : Nat → List Int → Int → List Int
  | 0, st, _ => st
  | k + 1, st, a => if come g h st = [] then st else fin g h k (stp st (come g h st) a) (a + 1)
theorem stp_len (c : List Nat) (a : Int) : ∀ st, (stp st c a).length = st.length := by
  unfold stp
  induction c with
  | nil => intro st; rfl
  | cons i r ih => intro st; rw [List.foldl_cons, ih, List.length_set]
theorem at_set {st : List Int} {i j : Nat} {a : Int} (hi : i < st.length) : at' (st.set i a) j = if j = i then a else at' st j := by
  unfold at'
  rw [List.getD_eq_getElem?_getD, List.getD_eq_getElem?_getD, List.getElem?_set]
  by_cases e : i = j
  · subst e; rw [if_pos rfl, if_pos hi, if_pos rfl]; rfl
  · rw [if_neg e, if_neg (Ne.symm e)]
theorem at_stp {a : Int} : ∀ (c : List Nat) (st : List Int), (∀ i ∈ c, i < st.length) → ∀ j, at' (stp st c a) j = if j ∈ c then a else at' st j
  | [], st, _, j => by simp [stp]
  | i :: r, st, h, j => by
    show at' (stp (st.set i a) r a) j = _
    rw [at_stp r (st.set i a) (fun k hk => by rw [List.length_set]; exact h k (List.mem_cons_of_mem _ hk)) j, at_set (h i List.mem_cons_self)]
    by_cases e1 : j ∈ r
    · rw [if_pos e1, if_pos (List.mem_cons_of_mem _ e1)]
    · rw [if_neg e1]
      by_cases e2 : j = i
      · rw [if_pos e2, if_pos (by rw [e2]; exact List.mem_cons_self)]
      · rw [if_neg e2, if_neg fun z => (List.mem_cons.mp z).elim e2 e1]
theorem come_mem {g : List Pl} {h : Int} {st : List Int} {i : Nat} : i ∈ come g h st ↔ i < g.length ∧ at' st i < 0 ∧ ∃ p, g[i]? = some p ∧ drw h st p = true := by
  unfold come cond
  rw [List.mem_filter, List.mem_range, Bool.and_eq_true, decide_eq_true_eq]
  constructor
  · rintro ⟨h1, h2, h3⟩
    refine ⟨h1, h2, ?_⟩
    cases e : g[i]? with
    | none => rw [e] at h3; cases h3
    | some p => rw [e] at h3; exact ⟨p, rfl, h3⟩
  · rintro ⟨h1, h2, p, e, h3⟩
    exact ⟨h1, h2, by rw [e]; exact h3⟩
/-- what holds between the stages -/
structure Ok (g : List Pl) (h : Int) (st : List Int) (a : Int) : Prop where
  len : st.length = g.length
  low : ∀ i, -1 ≤ at' st i
  top : ∀ i, at' st i < a
  wy : ∀ (i : Nat) p, g[i]? = some p → p.1 = h → 0 < at' st i → ∃ w ∈ p.2.2, 0 ≤ at' st w.toNat ∧ at' st w.toNat < at' st i
theorem Ok.next {g : List Pl} {h : Int} {st : List Int} {a : Int} (o : Ok g h st a) (ha : 0 < a) : Ok g h (stp st (come g h st) a) (a + 1) := by
  have hc : ∀ i ∈ come g h st, i < st.length := fun i hi => by rw [o.len]; exact (come_mem.mp hi).1
  refine ⟨by rw [stp_len]; exact o.len, fun i => ?_, fun i => ?_, fun i p hp hh hi => ?_⟩
  · rw [at_stp _ _ hc]; split
    · omega
    · exact o.low i
  · rw [at_stp _ _ hc]; split
    · omega
    · have := o.top i; omega
  · rw [at_stp _ _ hc] at hi ⊢
    by_cases hm : i ∈ come g h st
    · rw [if_pos hm]
      obtain ⟨_, _, p', e, hd⟩ := come_mem.mp hm
      rw [hp] at e
      cases e
      unfold drw at hd
      rw [if_pos hh] at hd
      obtain ⟨w, hw, hw2⟩ := List.any_eq_true.mp hd
      have hw3 : 0 ≤ at' st w.toNat := of_decide_eq_true hw2
      refine ⟨w, hw, ?_⟩
      rw [at_stp _ _ hc]
      have hn : w.toNat ∉ come g h st := fun z => by have := (come_mem.mp z).2.1; omega
      rw [if_neg hn]
      exact ⟨hw3, o.top _⟩
    · rw [if_neg hm] at hi ⊢
      obtain ⟨w, hw, h1, h2⟩ := o.wy i p hp hh hi
      refine ⟨w, hw, ?_⟩
      rw [at_stp _ _ hc]
      have hn : w.toNat ∉ come g h st := fun z => by have := (come_mem.mp z).2.1; omega
      rw [if_neg hn]
      exact ⟨h1, h2⟩
/-- the start: the goals at 0 -/
def st0 (n : Nat) (gs : List Int) : List Int := stp (List.replicate n (-1)) (gs.map Int.toNat) 0
def res (g : List Pl) (h : Int) (gs : List Int) : List Int := fin g h (g.length + 1) (st0 g.length gs) 1
end P4

namespace P4
open Gm
structure Ok2 (g : List Pl) (h : Int) (gs : List Int) (st : List Int) (a : Int) : Prop where
  len : st.length = g.length
  top : ∀ i, at' st i < a
  zero : ∀ i : Nat, at' st i = 0 ↔ (i : Int) ∈ gs
  oth : ∀ (i : Nat) p, g[i]? = some p → p.1 ≠ h → 0 < at' st i → ∀ w ∈ p.2.2, 0 ≤ at' st w.toNat ∧ at' st w.toNat < at' st i
theorem Ok2.next {g : List Pl} {h : Int} {gs st : List Int} {a : Int} (o : Ok2 g h gs st a) (ha : 0 < a) : Ok2 g h gs (stp st (come g h st) a) (a + 1) := by
  have hc : ∀ i ∈ come g h st, i < st.length := fun i hi => by rw [o.len]; exact (come_mem.mp hi).1
  refine ⟨by rw [stp_len]; exact o.len, fun i => ?_, fun i => ?_, fun i p hp hh hi w hw => ?_⟩
  · rw [at_stp _ _ hc]; split
    · omega
    · have := o.top i; omega
  · rw [at_stp _ _ hc]
    by_cases hm : i ∈ come g h st
    · rw [if_pos hm]
      have := (come_mem.mp hm).2.1
      constructor
      · intro z; omega
      · intro z; have := (o.zero i).mpr z; omega
    · rw [if_neg hm]; exact o.zero i
  · rw [at_stp _ _ hc] at hi ⊢
    by_cases hm : i ∈ come g h st
    · rw [at_stp _ _ hc, if_pos hm]
      obtain ⟨_, _, p', e, hd⟩ := come_mem.mp hm
      rw [hp] at e
      cases e
      unfold drw at hd
      rw [if_neg hh] at hd
      have hw3 : 0 ≤ at' st w.toNat := of_decide_eq_true (List.all_eq_true.mp hd w hw)
      have hn : w.toNat ∉ come g h st := fun z => by have := (come_mem.mp z).2.1; omega
      rw [if_neg hn]
      exact ⟨hw3, o.top _⟩
    · rw [if_neg hm] at hi
      rw [at_stp _ _ hc, if_neg hm]
      obtain ⟨h1, h2⟩ := o.oth i p hp hh hi w hw
      have hn : w.toNat ∉ come g h st := fun z => by have := (come_mem.mp z).2.1; omega
      rw [if_neg hn]
      exact ⟨h1, h2⟩
end P4

namespace Zk
/-! # two hands, one walker: the mathematics -/
inductive Rc {α : Type} (N : α → List α) (cr : α → Int) (c : Int) (s : α) : α → Prop where
  | one {y : α} : y ∈ N s → Rc N cr c s y
  | step {x y : α} : Rc N cr c s x → cr x ≤ c → y ∈ N x → Rc N cr c s y
theorem Rc.avoid {α : Type} {N N2 : α → List α} {cr : α → Int} {c : Int} {s : α} {W B : α → Prop} (clW : ∀ x, W x → ∀ y ∈ N x, W y) (cl : ∀ x, W x → B x → cr x ≤ c → ∀ y ∈ N x, B y) (sub : ∀ x, W x → ¬ B x → cr x ≤ c → ∀ y ∈ N x, B y ∨ y ∈ N2 x) (hw : W s) (hs : ¬ B s) (hc : cr s ≤ c) {y : α} (r : Rc N cr c s y) : W y ∧ (B y ∨ Rc N2 cr c s y) := by
  induction r with
  | one h =>
    refine ⟨clW _ hw _ h, ?_⟩
    rcases sub _ hw hs hc _ h with z | z
    · exact .inl z
    · exact .inr (.one z)
  | @step x y _ hx h ih =>
    refine ⟨clW _ ih.1 _ h, ?_⟩
    by_cases b : B x
    · exact .inl (cl _ ih.1 b hx _ h)
    · rcases ih.2 with z | z
      · exact absurd z b
      · rcases sub _ ih.1 b hx _ h with u | u
        · exact .inl u
        · exact .inr (.step z hx u)
theorem Rc.inside {α : Type} {N N2 : α → List α} {cr : α → Int} {c : Int} {s : α} {W : α → Prop} (cl : ∀ x, W x → cr x ≤ c → ∀ y ∈ N x, W y ∧ y ∈ N2 x) (hs : W s) (hc : cr s ≤ c) {y : α} (p : Rc N cr c s y) : W y ∧ Rc N2 cr c s y := by
  induction p with
  | one h => exact ⟨(cl _ hs hc _ h).1, .one (cl _ hs hc _ h).2⟩
  | @step x y _ hx h ih => exact ⟨(cl _ ih.1 hx _ h).1, .step ih.2 hx (cl _ ih.1 hx _ h).2⟩
structure Ar (α : Type) where
  ow : α → Int
  cr : α → Int
  ws : α → List α
variable {α : Type}
def Ar.mv (G : Ar α) (h : Int) (σ : α → α) (k : α) : List α := if G.ow k = h then [σ k] else G.ws k
theorem mv_own {G : Ar α} {h : Int} {σ : α → α} {k : α} (e : G.ow k = h) : G.mv h σ k = [σ k] := by unfold Ar.mv; rw [if_pos e]
theorem mv_oth {G : Ar α} {h : Int} {σ : α → α} {k : α} (e : ¬ G.ow k = h) : G.mv h σ k = G.ws k := by unfold Ar.mv; rw [if_neg e]
structure Ar.Win (G : Ar α) (h : Int) (K : α → Prop) (σ : α → α) : Prop where
  own : ∀ k, K k → G.ow k = h → σ k ∈ G.ws k ∧ K (σ k)
  oth : ∀ k, K k → G.ow k ≠ h → ∀ w ∈ G.ws k, K w
  win : ∀ s, K s → G.cr s % 2 ≠ h → ¬ Rc (G.mv h σ) G.cr (G.cr s) s s
theorem Ar.Win.cl {G : Ar α} {h : Int} {K : α → Prop} {σ : α → α} (w : G.Win h K σ) {k : α} (hk : K k) {y : α} (hy : y ∈ G.mv h σ k) : K y ∧ y ∈ G.ws k := by
  by_cases e : G.ow k = h
  · rw [mv_own e, List.mem_singleton] at hy
    subst hy
    exact ⟨(w.own k hk e).2, (w.own k hk e).1⟩
  · rw [mv_oth e] at hy
    exact ⟨w.oth k hk e y hy, hy⟩
theorem Ar.Win.none (G : Ar α) (h : Int) (σ : α → α) : G.Win h (fun _ => False) σ := ⟨fun _ z => z.elim, fun _ z => z.elim, fun _ z => z.elim⟩
/-- the game of the places left -/
def Ar.part [DecidableEq α] (G : Ar α) (L : List α) : Ar α := ⟨G.ow, G.cr, fun k => if k ∈ L then (G.ws k).filter (fun w => decide (w ∈ L)) else [k]⟩
theorem part_in [DecidableEq α] {G : Ar α} {L : List α} {k : α} (h : k ∈ L) {w : α} : w ∈ (G.part L).ws k ↔ w ∈ G.ws k ∧ w ∈ L := by
  show w ∈ (if k ∈ L then _ else _) ↔ _
  rw [if_pos h, List.mem_filter, decide_eq_true_eq]
section
variable [DecidableEq α]
open Classical in
noncomputable def both (W : α → Prop) (s1 s2 : α → α) (k : α) : α := if W k then s1 k else s2 k
omit [DecidableEq α] in
theorem both_in {W : α → Prop} {s1 s2 : α → α} {k : α} (h : W k) : both W s1 s2 k = s1 k := by unfold both; exact if_pos h
omit [DecidableEq α] in
theorem both_out {W : α → Prop} {s1 s2 : α → α} {k : α} (h : ¬ W k) : both W s1 s2 k = s2 k := by unfold both; exact if_neg h
/-- between the turns -/
structure Turn (G : Ar α) (L0 L : List α) (K : Int → α → Prop) (σ : Int → α → α) : Prop where
  sub : ∀ k ∈ L, k ∈ L0
  no : ∀ k ∈ L, ∀ w ∈ G.ws k, ¬ K (G.ow k) w
  on : ∀ k ∈ L, ∃ w ∈ G.ws k, w ∈ L
  out : ∀ h k, K h k → k ∈ L0 ∧ ¬ k ∈ L
  one : ∀ h j k, K h k → K j k → h = j
  all : ∀ k ∈ L0, k ∈ L ∨ K 0 k ∨ K 1 k
  win : ∀ h, h = 0 ∨ h = 1 → (G.part L0).Win h (K h) (σ h)
theorem Turn.init {G : Ar α} {L0 : List α} (σ : Int → α → α) (h : ∀ k ∈ L0, ∃ w ∈ G.ws k, w ∈ L0) : Turn G L0 L0 (fun _ _ => False) σ :=
  ⟨fun _ z => z, fun _ _ _ _ z => z, h, fun _ _ z => z.elim, fun _ _ _ z => z.elim, fun _ z => .inl z, fun _ _ => Ar.Win.none _ _ _⟩
theorem Turn.next {G : Ar α} {L0 L L' : List α} {K : Int → α → Prop} {σ : Int → α → α} (T : Turn G L0 L K σ) {h : Int} (hh : h = 0 ∨ h = 1) (hw : ∀ k, G.ow k = 0 ∨ G.ow k = 1) {A : α → Prop} {τ : α → α} (hA : ∀ k, A k → k ∈ L) (h' : ∀ k, k ∈ L' ↔ k ∈ L ∧ ¬ A k)
    (W : (G.part L).Win h A τ) (sown : ∀ k ∈ L', G.ow k = h → ∀ w ∈ (G.part L).ws k, ¬ A w) (soth : ∀ k ∈ L', G.ow k ≠ h → ∃ w ∈ (G.part L).ws k, ¬ A w) :
    Turn G L0 L' (fun j k => K j k ∨ (j = h ∧ A k)) (fun j => if j = h then both A τ (σ j) else σ j) := by
  have L'L : ∀ k ∈ L', k ∈ L := fun k hk => ((h' k).mp hk).1
  refine ⟨fun k hk => T.sub k (L'L k hk), fun k hk w hw z => ?_, fun k hk => ?_, fun j k z => ?_, fun j i k z y => ?_, fun k hk => ?_, fun j hj => ?_⟩
  · rcases z with z | ⟨e, z⟩
    · exact T.no k (L'L k hk) w hw z
    · exact sown k hk e w ((part_in (L'L k hk)).mpr ⟨hw, hA w z⟩) z
  · by_cases e : G.ow k = h
    · obtain ⟨w, hw, hwL⟩ := T.on k (L'L k hk)
      exact ⟨w, hw, (h' w).mpr ⟨hwL, sown k hk e w ((part_in (L'L k hk)).mpr ⟨hw, hwL⟩)⟩⟩
    · obtain ⟨w, hw, hn⟩ := soth k hk e
      obtain ⟨h1, h2⟩ := (part_in (L'L k hk)).mp hw
      exact ⟨w, h1, (h' w).mpr ⟨h2, hn⟩⟩
  · rcases z with z | ⟨_, z⟩
    · exact ⟨(T.out j k z).1, fun y => (T.out j k z).2 (L'L k y)⟩
    · exact ⟨T.sub k (hA k z), fun y => ((h' k).mp y).2 z⟩
  · rcases z with z | ⟨e, z⟩ <;> rcases y with y | ⟨f, y⟩
    · exact T.one j i k z y
    · exact absurd (hA k y) (T.out j k z).2
    · exact absurd (hA k z) (T.out i k y).2
    · rw [e, f]
  · rcases T.all k hk with z | z | z
    · by_cases a : A k
      · rcases hh with e | e
        · exact .inr (.inl (.inr ⟨e.symm, a⟩))
        · exact .inr (.inr (.inr ⟨e.symm, a⟩))
      · exact .inl ((h' k).mpr ⟨z, a⟩)
    · exact .inr (.inl (.inl z))
    · exact .inr (.inr (.inl z))
  · by_cases e : j = h
    · subst e
      simp only [if_true, true_and]
      have V := T.win j hj
      have newK : ∀ k, A k → ¬ K j k := fun k a z => (T.out j k z).2 (hA k a)
      have mvA : ∀ k, A k → ∀ y ∈ (G.part L0).mv j (both A τ (σ j)) k, K j y ∨ (A y ∧ y ∈ (G.part L).mv j τ k) := fun k a y hy => by
        by_cases e : G.ow k = j
        · rw [mv_own (show (G.part L0).ow k = j from e), List.mem_singleton, both_in a] at hy
          subst hy
          exact .inr ⟨(W.own k a e).2, by rw [mv_own (show (G.part L).ow k = j from e)]; simp⟩
        · rw [mv_oth (show ¬ (G.part L0).ow k = j from e), part_in (T.sub k (hA k a))] at hy
          by_cases q : y ∈ L
          · have hp := (part_in (hA k a)).mpr ⟨hy.1, q⟩
            exact .inr ⟨W.oth k a e y hp, by rw [mv_oth (show ¬ (G.part L).ow k = j from e)]; exact hp⟩
          · left
            have hn := T.no k (hA k a) y hy.1
            rcases T.all y hy.2 with z | z | z
            · exact absurd z q
            · rcases hj with f | f
              · rw [f]; exact z
              · rcases hw k with u | u
                · rw [u] at hn; exact absurd z hn
                · exact absurd (u.trans f.symm) e
            · rcases hj with f | f
              · rcases hw k with u | u
                · exact absurd (u.trans f.symm) e
                · rw [u] at hn; exact absurd z hn
              · rw [f]; exact z
      have mvK : ∀ k, K j k → ∀ y ∈ (G.part L0).mv j (both A τ (σ j)) k, K j y ∧ y ∈ (G.part L0).mv j (σ j) k := fun k z y hy => by
        have na : ¬ A k := fun a => newK k a z
        by_cases e : G.ow k = j
        · have e' : (G.part L0).ow k = j := e
          rw [mv_own e', both_out na] at hy
          rw [mv_own e']
          rw [List.mem_singleton] at hy
          subst hy
          exact ⟨(V.own k z e').2, by simp⟩
        · have e' : ¬ (G.part L0).ow k = j := e
          rw [mv_oth e'] at hy ⊢
          exact ⟨V.oth k z e' y hy, hy⟩
      refine ⟨fun k z e => ?_, fun k z e w hw => ?_, fun s z hp hr => ?_⟩
      · rcases z with z | a
        · have na : ¬ A k := fun a => newK k a z
          rw [both_out na]
          exact ⟨(V.own k z e).1, .inl (V.own k z e).2⟩
        · rw [both_in a]
          have := W.own k a e
          have hp := (part_in (hA k a)).mp this.1
          exact ⟨(part_in (T.sub k (hA k a))).mpr ⟨hp.1, T.sub _ hp.2⟩, .inr this.2⟩
      · rcases z with z | a
        · exact .inl (V.oth k z e w hw)
        · rcases mvA k a w (by rw [mv_oth e]; exact hw) with u | u
          · exact .inl u
          · exact .inr u.1
      · rcases z with z | a
        · exact V.win s z hp (hr.inside (W := K j) (fun x hx _ y hy => mvK x hx y hy) z (Int.le_refl _)).2
        · have := hr.avoid (N2 := (G.part L).mv j τ) (W := fun x => K j x ∨ A x) (B := K j) (fun x hx y hy => ?_) (fun x _ hx _ y hy => (mvK x hx y hy).1) (fun x hx hn _ y hy => ?_) (.inr a) (newK s a) (Int.le_refl _)
          · rcases this.2 with u | u
            · exact newK s a u
            · exact W.win s a hp u
          · rcases hx with u | u
            · exact .inl (mvK x u y hy).1
            · rcases mvA x u y hy with v | v
              · exact .inl v
              · exact .inr v.1
          · rcases hx with u | u
            · exact absurd u hn
            · rcases mvA x u y hy with v | v
              · exact .inl v
              · exact .inr v.2
    · simp only [if_neg e]
      have : (fun k => K j k ∨ (j = h ∧ A k)) = K j := by
        funext k
        simp [e]
      show (G.part L0).Win j (fun k => K j k ∨ (j = h ∧ A k)) (σ j)
      rw [this]
      exact T.win j hj
end
end Zk

namespace Zk
/-! # just one hand -/
section
variable {α : Type}
def it (J : α → α) (v : α) : Nat → α
  | 0 => v
  | n + 1 => J (it J v n)
end
end Zk

namespace Zk
open Gm P4
/-! # games of the program -/
def hnd (g : List Pl) (k : Int) : Int := match g[k.toNat]? with
  | some p => p.1
  | none => 0
theorem at_in {g : List Pl} {k : Int} (h0 : 0 ≤ k) (h1 : k < g.length) : ∃ p, g[k.toNat]? = some p := ⟨g[k.toNat]'(by omega), List.getElem?_eq_getElem (by omega)⟩
end Zk

namespace Zk
open Gm P4
theorem Ar.Win.congr {α : Type} {G G' : Ar α} {h : Int} {K : α → Prop} {σ : α → α} (e : ∀ k, K k → G.ow k = G'.ow k ∧ G.cr k = G'.cr k ∧ G.ws k = G'.ws k) (w : G.Win h K σ) : G'.Win h K σ := by
  have mv : ∀ k, K k → G'.mv h σ k = G.mv h σ k := fun k hk => by
    obtain ⟨e1, _, e3⟩ := e k hk
    unfold Ar.mv
    rw [e1, e3]
  refine ⟨fun k hk o => ?_, fun k hk o x hx => ?_, fun s hs hp hr => ?_⟩
  · obtain ⟨e1, _, e3⟩ := e k hk
    rw [← e1] at o; rw [← e3]
    exact w.own k hk o
  · obtain ⟨e1, _, e3⟩ := e k hk
    rw [← e1] at o; rw [← e3] at hx
    exact w.oth k hk o x hx
  · have ec := (e s hs).2.1
    have go : ∀ y, Rc (G'.mv h σ) G'.cr (G'.cr s) s y → K y ∧ Rc (G.mv h σ) G.cr (G.cr s) s y := fun y r => by
      induction r with
      | one z =>
        rw [mv s hs] at z
        exact ⟨(w.cl hs z).1, .one z⟩
      | @step x y _ hx z ih =>
        rw [mv x ih.1] at z
        exact ⟨(w.cl ih.1 z).1, .step ih.2 (by rw [(e x ih.1).2.1, ec]; exact hx) z⟩
    exact w.win s hs (by rw [ec]; exact hp) (go s hr).2
end Zk

namespace Zk
open PySem L2 Gm P4
/-! # plans that tell a hand's way -/
structure Tell (g : List Pl) (h : Int) (pl : Plan) (κ : Int → Prop) (τ : Int → Int) : Prop where
  nd : (pl.map (·.1)).Nodup
  yes : ∀ k, κ k → look pl k = some (if hnd g k = h then some (τ k) else none)
  no : ∀ k, ¬ κ k → look pl k = none
theorem Tell.nil (g : List Pl) (h : Int) (τ : Int → Int) : Tell g h [] (fun _ => False) τ := ⟨List.nodup_nil, fun _ z => z.elim, fun _ _ => rfl⟩
theorem Tell.mem {g : List Pl} {h : Int} {pl : Plan} {κ : Int → Prop} {τ : Int → Int} (t : Tell g h pl κ τ) {k : Int} : k ∈ pl.map (·.1) ↔ κ k := by
  rw [← look_isSome]
  constructor
  · intro z
    refine Classical.byContradiction fun n => ?_
    rw [t.no k n] at z
    cases z
  · intro z
    rw [t.yes k z]; rfl
theorem Tell.val {g : List Pl} {h : Int} {pl : Plan} {κ : Int → Prop} {τ : Int → Int} (t : Tell g h pl κ τ) {k : Int} {v : Option Int} (m : (k, v) ∈ pl) : κ k ∧ v = if hnd g k = h then some (τ k) else none := by
  have hk : κ k := t.mem.mp (List.mem_map.mpr ⟨(k, v), m, rfl⟩)
  have := look_of t.nd m
  rw [t.yes k hk] at this
  exact ⟨hk, (Option.some.inj this).symm⟩
theorem Tell.len {g : List Pl} {h : Int} {pl : Plan} {κ : Int → Prop} {τ : Int → Int} (t : Tell g h pl κ τ) {n : Nat} (hin : ∀ k, κ k → 0 ≤ k ∧ k < n) : pl.length ≤ n := pl_len t.nd fun kv hm => hin _ (t.val (k := kv.1) (v := kv.2) hm).1
theorem Tell.congr {g g' : List Pl} {h : Int} {pl : Plan} {κ : Int → Prop} {τ : Int → Int} (t : Tell g' h pl κ τ) (e : ∀ k, κ k → hnd g' k = hnd g k) : Tell g h pl κ τ := ⟨t.nd, fun k hk => by rw [t.yes k hk, e k hk], t.no⟩
theorem rch_rc {N : Int → List Int} {cr : Int → Int} {c s y : Int} (r : Rch N cr c s y) : Rc N cr c s y := by
  induction r with
  | one h => exact .one h
  | step _ hx h ih => exact .step ih hx h
theorem dec_ii (a b : Int) : decide (V.int a = V.int b) = decide (a = b) := by
  by_cases e : a = b
  · rw [decide_eq_true e, decide_eq_true (by rw [e])]
  · rw [decide_eq_false e, decide_eq_false (fun z => e (V.int.inj z))]
theorem nin_list (x : Int) (ns : List Int) : (if true = true then !inV (V.int x) (ns.map V.int) else inV (V.int x) (ns.map V.int)) = !decide (x ∈ ns) := by rw [if_pos rfl, inVints]
theorem keys_ints (pl : Plan) : ((kvP pl).map fun kv => kV kv.1) = (pl.map (·.1)).map V.int := by
  unfold kvP
  rw [List.map_map, List.map_map]
  rfl
end Zk

namespace Zk
/-! # counts: how often a walk meets a crown ahead of a greater one -/
def mx (l : List Int) : Int := l.foldr max 0
theorem mx_nonneg (l : List Int) : 0 ≤ mx l := by
  induction l with
  | nil => exact Int.le_refl _
  | cons a r ih => show 0 ≤ max a (mx r); omega
theorem mx_ge {l : List Int} {a : Int} (h : a ∈ l) : a ≤ mx l := by
  induction l with
  | nil => cases h
  | cons b r ih =>
    show a ≤ max b (mx r)
    rcases List.mem_cons.mp h with z | z
    · omega
    · have := ih z; omega
theorem mx_mem (l : List Int) : mx l = 0 ∨ mx l ∈ l := by
  induction l with
  | nil => exact .inl rfl
  | cons b r ih =>
    have e : mx (b :: r) = max b (mx r) := rfl
    rcases Int.le_total b (mx r) with z | z
    · rw [Int.max_eq_right z] at e
      rw [e]
      rcases ih with y | y
      · exact .inl y
      · exact .inr (List.mem_cons_of_mem _ y)
    · rw [Int.max_eq_left z] at e
      rw [e]
      exact .inr List.mem_cons_self
theorem mx_uniq {l : List Int} {M : Int} (h1 : M ∈ l) (h2 : ∀ a ∈ l, a ≤ M) (h0 : 0 ≤ M) : mx l = M := by
  have := mx_ge h1
  rcases mx_mem l with z | z
  · omega
  · have := h2 _ z; omega
section
variable (N : Int → List Int) (cr : Int → Int) (c : Int)
def cnt : Nat → Int → Int
  | 0, _ => 0
  | t + 1, k => if c < cr k then 0 else mx ((N k).map (cnt t)) + (if cr k = c then 1 else 0)
variable {N cr c}
theorem cnt_nonneg (t : Nat) (k : Int) : 0 ≤ cnt N cr c t k := by
  cases t with
  | zero => exact Int.le_refl _
  | succ t =>
    unfold cnt
    have := mx_nonneg ((N k).map (cnt N cr c t))
    split
    · omega
    · split <;> omega
end
/-- a paper that shows: no round is lost -/
theorem shown_wins {N : Int → List Int} {cr num : Int → Int} {s : Int} {Kp : Int → Prop} (cl : ∀ x, Kp x → ∀ y ∈ N x, Kp y) (h : ∀ x, Kp x → cr x ≤ cr s → ∀ y ∈ N x, num y ≤ num x ∧ (cr x = cr s → num y < num x)) (hs : Kp s) {y : Int} (r : Rc N cr (cr s) s y) : Kp y ∧ num y < num s := by
  induction r with
  | one z => exact ⟨cl s hs _ z, (h s hs (Int.le_refl _) _ z).2 rfl⟩
  | step _ hx z ih => exact ⟨cl _ ih.1 _ z, Int.lt_of_le_of_lt (h _ ih.1 hx _ z).1 ih.2⟩
end Zk

namespace Gm
open PySem L2 Zk
/-! # the walk -/
def wit (st : List Int) (s : Int) : Nat → Int
  | 0 => s
  | n + 1 => st.getD (wit st s n).toNat 0
def road (st : List Int) (s : Int) (n : Nat) : List Int := (List.range n).map (wit st s)
theorem road_succ (st : List Int) (s : Int) (n : Nat) : road st s (n + 1) = road st s n ++ [wit st s n] := by
  unfold road
  rw [List.range_succ, List.map_append]
  rfl
theorem road_len (st : List Int) (s : Int) (n : Nat) : (road st s n).length = n := by simp [road]
theorem road_take (st : List Int) (s : Int) {n n' : Nat} (h : n ≤ n') : (road st s n').take n = road st s n := by
  unfold road
  rw [← List.map_take, List.take_range, Nat.min_eq_left h]
/-- the ends of a walk: the road's length -/
structure Ring (st : List Int) (s : Int) (n : Nat) : Prop where
  nd : (road st s n).Nodup
  bk : wit st s n ∈ road st s n
theorem Ring.uniq {st : List Int} {s : Int} {n n' : Nat} (a : Ring st s n) (b : Ring st s n') : n = n' := by
  have go : ∀ {n n' : Nat}, Ring st s n → Ring st s n' → ¬ n < n' := fun {n n'} a b h => by
    have e := road_take st s (n := n + 1) (n' := n') h
    have nd : (road st s (n + 1)).Nodup := by rw [← e]; exact b.nd.sublist (List.take_sublist _ _)
    rw [road_succ, List.nodup_append] at nd
    exact nd.2.2 _ a.bk _ (List.mem_singleton.mpr rfl) rfl
  have h1 := go a b
  have h2 := go b a
  omega
def cutOf (st : List Int) (s : Int) (n : Nat) : Nat := (road st s n).idxOf (wit st s n)
theorem Ring.cut {st : List Int} {s : Int} {n : Nat} (a : Ring st s n) : cutOf st s n < n := by
  have := List.idxOf_lt_length_of_mem a.bk
  rw [road_len] at this
  exact this
theorem road_get {st : List Int} {s : Int} {n i : Nat} (h : i < n) : (road st s n)[i]? = some (wit st s i) := by
  unfold road
  rw [List.getElem?_map, List.getElem?_range h]; rfl
theorem Ring.back {st : List Int} {s : Int} {n : Nat} (a : Ring st s n) : wit st s (cutOf st s n) = wit st s n := by
  have h := a.cut
  have h2 : (road st s n)[cutOf st s n]? = some (wit st s n) := by
    unfold cutOf
    rw [List.getElem?_eq_getElem (List.idxOf_lt_length_of_mem a.bk), List.getElem_idxOf]
  rw [road_get h] at h2
  exact Option.some.inj h2
end Gm

namespace HT
open PySem PySem.Spec PyProof.Rows
section
variable {prog : Program} {w : World} {A : Around} {E : Value → Shared → Prop} {s : Shared}
end
end HT
namespace L2
open PySem PySem.Spec PyProof.Rows
section
variable {X : Cx}
end
end L2

namespace L2
open PySem
theorem back_cg {H1 H H2 : Hp} {a : Addr} (h : H1 a = H a) : back H1 a H2 = back H a H2 := by
  funext b
  by_cases e : b = a
  · subst e; rw [back_at, back_at, h]
  · rw [back_ne e, back_ne e]
theorem same_fz {H H1 : Hp} {a : Addr} {o : Obj} {kvs : List (Key × V)} (s : Same H H1) (_ : H1 a = H a) : Same (fz H a o kvs) (fz H1 a o kvs) := fun b u e => by
  by_cases z : b = a
  · subst z; rw [fz_at] at e ⊢; exact e
  · rw [fz_ne z] at e ⊢; exact s b u e
end L2
namespace Gm
open PySem L2 Zk
/-! # papers as data -/
theorem wf_len {n : Nat} {p : Pl} (wf : WfPl n p) : p.2.2.length ≤ n := nodup_bound (wf.ris.imp fun {a b} h => by omega) wf.inn
def kvI (pl : Plan) (f : Int → Int) : List (Key × V) := pl.map fun p => (Sum.inl p.1, .int (f p.1))
theorem kvI_len (pl : Plan) (f : Int → Int) : (kvI pl f).length = pl.length := by simp [kvI]
theorem valV_kvI {pl : Plan} {f : Int → Int} {k : Int} : valV (kvI pl f) (Sum.inl k) = if k ∈ pl.map (·.1) then some (.int (f k)) else none := by
  induction pl with
  | nil => rfl
  | cons p r ih =>
    unfold kvI at ih ⊢
    rw [List.map_cons, List.map_cons]
    by_cases e : p.1 = k
    · subst e
      rw [valV_pos rfl, if_pos List.mem_cons_self]
    · rw [valV_neg (by intro z; exact e (Sum.inl.inj z)), ih]
      by_cases h : k ∈ r.map (·.1)
      · rw [if_pos h, if_pos (List.mem_cons_of_mem _ h)]
      · rw [if_neg h, if_neg (fun z => (List.mem_cons.mp z).elim (fun y => e y.symm) h)]
theorem not_take {pl : Plan} (nd : (pl.map (·.1)).Nodup) {i : Nat} {p : Int × Option Int} (h : pl[i]? = some p) : p.1 ∉ (pl.take i).map (·.1) := by
  intro z
  have e : pl = pl.take i ++ p :: pl.drop (i + 1) := by
    have hi := get_lt h
    rw [List.getElem?_eq_getElem hi] at h
    rw [← Option.some.inj h, List.getElem_cons_drop, List.take_append_drop]
  rw [e, List.map_append, List.nodup_append] at nd
  exact nd.2.2 _ z _ (by simp) rfl
theorem putK_kvI {pl : Plan} (nd : (pl.map (·.1)).Nodup) {i : Nat} {p : Int × Option Int} (h : pl[i]? = some p) (f : Int → Int) : putK (kvI (pl.take i) f) (Sum.inl p.1) (.int (f p.1)) = kvI (pl.take (i + 1)) f := by
  rw [putK_new _ (by rw [valV_kvI, if_neg (not_take nd h)])]
  unfold kvI
  rw [List.take_add_one, h, List.map_append]
  rfl
/-- the crowns that a hand fears -/
def FrdIn (g : List Pl) (h c : Int) : Prop := ∃ p ∈ g, p.2.1 = c ∧ c % 2 ≠ h
structure Frd (g : List Pl) (h : Int) (ns : List Int) : Prop where
  lt : ns.Pairwise (· < ·)
  mem : ∀ c, c ∈ ns ↔ FrdIn g h c
theorem strictEq : ∀ {a b : List Int}, a.Pairwise (· < ·) → b.Pairwise (· < ·) → (∀ k, k ∈ a ↔ k ∈ b) → a = b
  | [], [], _, _, _ => rfl
  | [], y :: s, _, _, h => absurd ((h y).mpr List.mem_cons_self) (by simp)
  | x :: r, [], _, _, h => absurd ((h x).mp List.mem_cons_self) (by simp)
  | x :: r, y :: s, ha, hb, h => by
    rw [List.pairwise_cons] at ha hb
    have e : x = y := by
      rcases List.mem_cons.mp ((h x).mp List.mem_cons_self) with z | z
      · exact z
      · rcases List.mem_cons.mp ((h y).mpr List.mem_cons_self) with u | u
        · exact u.symm
        · have := ha.1 y u
          have := hb.1 x z
          omega
    subst e
    rw [strictEq ha.2 hb.2 fun k => ⟨fun z => ?_, fun z => ?_⟩]
    · rcases List.mem_cons.mp ((h k).mp (List.mem_cons_of_mem _ z)) with u | u
      · have := ha.1 k z; omega
      · exact u
    · rcases List.mem_cons.mp ((h k).mpr (List.mem_cons_of_mem _ z)) with u | u
      · have := hb.1 k z; omega
      · exact u
theorem Frd.uniq {g : List Pl} {h : Int} {a b : List Int} (x : Frd g h a) (y : Frd g h b) : a = b := strictEq x.lt y.lt fun k => by rw [x.mem, y.mem]
theorem Frd.len {g : List Pl} {h : Int} {a : List Int} (x : Frd g h a) : a.length ≤ g.length := by
  have := nodup_le (l := a) (l' := g.map (·.2.1)) (x.lt.imp fun {a b} h => by omega) (fun k hk => by
    obtain ⟨p, hp, e, _⟩ := (x.mem k).mp hk
    exact List.mem_map.mpr ⟨p, hp, e⟩)
  simpa using this
/-- a dict of lists of numbers, for the keys of a plan -/
def IsSheet (H : Hp) (kvs : List (Key × V)) (pl : Plan) (F : Int → List Int) : Prop := Paired (fun (kv : Key × V) (p : Int × Option Int) => kv.1 = Sum.inl p.1 ∧ ∃ r, kv.2 = .ref r ∧ H r = some (.lst ((F p.1).map V.int))) kvs pl
theorem IsSheet.tr {H H' : Hp} {kvs : List (Key × V)} {pl : Plan} {F : Int → List Int} (h : IsSheet H kvs pl F) (s : ∀ r u, H r = some (.lst u) → H' r = some (.lst u)) : IsSheet H' kvs pl F := Paired.mapP h fun _ _ z => by
  obtain ⟨a, r, b, c⟩ := z
  exact ⟨a, r, b, s _ _ c⟩
theorem IsSheet.len {H : Hp} {kvs : List (Key × V)} {pl : Plan} {F : Int → List Int} (h : IsSheet H kvs pl F) : kvs.length = pl.length := paired_len h
theorem IsSheet.val {H : Hp} {kvs : List (Key × V)} {pl : Plan} {F : Int → List Int} (h : IsSheet H kvs pl F) {k : Int} (hk : k ∈ pl.map (·.1)) : ∃ r, valV kvs (Sum.inl k) = some (.ref r) ∧ H r = some (.lst ((F k).map V.int)) := by
  induction h with
  | nil => cases hk
  | @cons kv p l1 l2 hd t ih =>
    obtain ⟨a, r, b, c⟩ := hd
    obtain ⟨kv1, kv2⟩ := kv
    simp only at a b
    subst a b
    by_cases e : p.1 = k
    · subst e
      exact ⟨r, valV_pos rfl, c⟩
    · rw [valV_neg (by intro z; exact e (Sum.inl.inj z))]
      exact ih ((List.mem_cons.mp hk).resolve_left fun z => e z.symm)
theorem IsSheet.none {H : Hp} {kvs : List (Key × V)} {pl : Plan} {F : Int → List Int} (h : IsSheet H kvs pl F) {k : Int} (hk : ¬ k ∈ pl.map (·.1)) : valV kvs (Sum.inl k) = Option.none := by
  induction h with
  | nil => rfl
  | @cons kv p l1 l2 hd t ih =>
    obtain ⟨a, r, b, c⟩ := hd
    obtain ⟨kv1, kv2⟩ := kv
    simp only at a b
    subst a b
    rw [valV_neg (by intro z; exact hk (by rw [List.map_cons, ← Sum.inl.inj z]; exact List.mem_cons_self))]
    exact ih fun z => hk (List.mem_cons_of_mem _ z)
theorem IsSheet.keys {H : Hp} {kvs : List (Key × V)} {pl : Plan} {F : Int → List Int} (h : IsSheet H kvs pl F) : kvs.map (·.1) = (pl.map (·.1)).map Sum.inl := by
  induction h with
  | nil => rfl
  | @cons kv p l1 l2 hd t ih =>
    rw [List.map_cons, List.map_cons, List.map_cons, ih, hd.1]
theorem nxt_ne {g : List Pl} {h : Int} {pl : Plan} (wf : ∀ p ∈ g, WfPl g.length p) (o : PlOk g h pl) (kb : keepsB g h pl = true) {k : Int} (hk : k ∈ pl.map (·.1)) : nxt g h pl k ≠ [] := by
  obtain ⟨h0, h1, _⟩ := keeps_in kb hk
  obtain ⟨p, hp⟩ := at_in h0 h1
  by_cases e : p.1 = h
  · obtain ⟨i, hi⟩ := o.own hk h0 hp e
    rw [nxt_own hp e hi]; simp
  · rw [nxt_other hp e]
    exact (wf p (List.mem_of_getElem? hp)).ways
/-- whether a sheet shows a plan -/
def cellOk (g : List Pl) (ns : List Int) (F : Int → List Int) (k w : Int) (i : Nat) : Bool := !(decide (crw g k ≤ ns.getD i 0)) || decide ((F w).getD i 0 + (if ns.getD i 0 = crw g k then 1 else 0) ≤ (F k).getD i 0)
def wayOk (g : List Pl) (ns : List Int) (F : Int → List Int) (k w : Int) : Bool := (List.range ns.length).all (cellOk g ns F k w)
def placeOk (g : List Pl) (h : Int) (pl : Plan) (ns : List Int) (F : Int → List Int) (k : Int) : Bool := (nxt g h pl k).all (wayOk g ns F k)
def shownB (g : List Pl) (h : Int) (pl : Plan) (ns : List Int) (F : Int → List Int) : Bool := pl.all fun kv => placeOk g h pl ns F kv.1
theorem getD_get {l : List Int} {i : Nat} {x : Int} (h : l[i]? = some x) : l.getD i 0 = x := by rw [List.getD_eq_getElem?_getD, h]; rfl
/-- a plan that is shown wins -/
theorem shown_lost {g : List Pl} {h : Int} {pl : Plan} {ns : List Int} {F : Int → List Int} (frd : Frd g h ns) (kb : keepsB g h pl = true) (sb : shownB g h pl ns F = true) : lostB g h pl = false := by
  unfold lostB
  rw [List.any_eq_false]
  rintro ⟨s, v⟩ hm z
  rw [Bool.and_eq_true, decide_eq_true_eq, backB_iff] at z
  have hs : s ∈ pl.map (·.1) := List.mem_map.mpr ⟨_, hm, rfl⟩
  obtain ⟨s0, s1, _⟩ := keeps_in kb hs
  obtain ⟨p, hp⟩ := at_in s0 s1
  have hc : crw g s ∈ ns := (frd.mem _).mpr ⟨p, List.mem_of_getElem? hp, (crw_of hp).symm, z.1⟩
  obtain ⟨i, hi, e⟩ := List.getElem_of_mem hc
  have hg : ns.getD i 0 = crw g s := getD_get (by rw [List.getElem?_eq_getElem hi, e])
  have := shown_wins (Kp := (· ∈ pl.map (·.1))) (num := fun k => (F k).getD i 0) (cr := crw g) (s := s) (fun x hx y hy => (keeps_in kb hx).2.2 y hy) (fun x hx hle y hy => by
    obtain ⟨kv, hkv, ekv⟩ := List.mem_map.mp hx
    have h1 := List.all_eq_true.mp sb kv hkv
    rw [ekv] at h1
    have h2 := List.all_eq_true.mp (List.all_eq_true.mp h1 y hy) i (List.mem_range.mpr hi)
    unfold cellOk at h2
    rw [hg, Bool.or_eq_true, Bool.not_eq_true', decide_eq_false_iff_not, decide_eq_true_eq] at h2
    have h3 := h2.resolve_left (fun n => n hle)
    constructor
    · split at h3 <;> omega
    · intro e
      rw [if_pos e.symm] at h3
      omega) hs (rch_rc z.2)
  exact Int.lt_irrefl _ this.2
end Gm

namespace Gm
open PySem L2 Zk
theorem valV_mem {kvs : List (Key × V)} {k : Key} {v : V} (h : valV kvs k = some v) : (k, v) ∈ kvs := by
  induction kvs with
  | nil => cases h
  | cons p r ih =>
    by_cases e : p.1 = k
    · rw [valV_pos e] at h
      obtain ⟨p1, p2⟩ := p
      simp only at e h
      rw [← e, ← Option.some.inj h]
      exact List.mem_cons_self
    · rw [valV_neg e] at h
      exact List.mem_cons_of_mem _ (ih h)
/-- a sheet, with one of its lists changed -/
theorem IsSheet.set {H : Hp} {kvs : List (Key × V)} {pl : Plan} {F : Int → List Int} (h : IsSheet H kvs pl F) (nd : (kvs.map (·.2)).Nodup) (ndk : (pl.map (·.1)).Nodup) {j : Int} {r : Addr} (hj : valV kvs (Sum.inl j) = some (.ref r)) (row : List Int) :
    IsSheet (upd H r (.lst (row.map V.int))) kvs pl (fun k => if k = j then row else F k) := by
  have gen : ∀ {kvs : List (Key × V)} {pl : Plan}, IsSheet H kvs pl F → (kvs.map (·.2)).Nodup → (pl.map (·.1)).Nodup → (valV kvs (Sum.inl j) = some (.ref r) ∨ V.ref r ∉ kvs.map (·.2)) → (V.ref r ∉ kvs.map (·.2) → ¬ j ∈ pl.map (·.1)) → IsSheet (upd H r (.lst (row.map V.int))) kvs pl (fun k => if k = j then row else F k) := by
    intro kvs pl h
    induction h with
    | nil => intro _ _ _ _; exact .nil
    | @cons kv p l1 l2 hd t ih =>
      intro nd ndk hj hn
      obtain ⟨a, r', b, c⟩ := hd
      obtain ⟨kv1, kv2⟩ := kv
      simp only at a b
      subst a b
      rw [List.map_cons, List.nodup_cons] at nd ndk
      by_cases e : p.1 = j
      · have hr : r' = r := by
          rcases hj with z | z
          · rw [valV_pos (by rw [e])] at z
            exact V.ref.inj (Option.some.inj z)
          · exact absurd (by rw [List.map_cons, e]; exact List.mem_cons_self) (hn z)
        subst hr
        refine .cons ⟨rfl, r', rfl, by rw [upd_same]; show _ = some (HO.lst ((if p.1 = j then row else F p.1).map V.int)); rw [if_pos e]⟩ (ih nd.2 ndk.2 (.inr nd.1) fun _ => by rw [← e]; exact ndk.1)
      · have hr : r' ≠ r := fun z => by
          rcases hj with y | y
          · rw [valV_neg (by intro u; exact e (Sum.inl.inj u))] at y
            have : (Sum.inl j, V.ref r) ∈ l1 := valV_mem y
            exact nd.1 (by rw [z]; exact List.mem_map.mpr ⟨_, this, rfl⟩)
          · exact y (by rw [← z, List.map_cons]; exact List.mem_cons_self)
        refine .cons ⟨rfl, r', rfl, by rw [upd_ne hr]; show _ = some (HO.lst ((if p.1 = j then row else F p.1).map V.int)); rw [if_neg e]; exact c⟩ (ih nd.2 ndk.2 ?_ ?_)
        · rcases hj with y | y
          · rw [valV_neg (by intro u; exact e (Sum.inl.inj u))] at y
            exact .inl y
          · exact .inr fun z => y (List.mem_cons_of_mem _ z)
        · intro z w
          refine hn ?_ (List.mem_cons_of_mem _ w)
          intro u
          rcases List.mem_cons.mp u with v | v
          · exact hr (V.ref.inj v).symm
          · exact z v
  refine gen h nd ndk (.inl hj) fun z => absurd (List.mem_map.mpr ⟨_, valV_mem hj, rfl⟩) z
theorem IsSheet.congr {H : Hp} {kvs : List (Key × V)} {pl : Plan} {F F' : Int → List Int} (h : IsSheet H kvs pl F) (e : ∀ k ∈ pl.map (·.1), F k = F' k) : IsSheet H kvs pl F' := by
  induction h with
  | nil => exact .nil
  | @cons kv p l1 l2 hd t ih =>
    obtain ⟨a, r, b, c⟩ := hd
    exact .cons ⟨a, r, b, by rw [← e p.1 (by rw [List.map_cons]; exact List.mem_cons_self)]; exact c⟩ (ih fun k hk => e k (List.mem_cons_of_mem _ hk))
theorem IsSheet.get {H : Hp} {kvs : List (Key × V)} {pl : Plan} {F : Int → List Int} (h : IsSheet H kvs pl F) {i : Nat} {k : Key} {v : V} (hi : kvs[i]? = some (k, v)) : ∃ p r, pl[i]? = some p ∧ k = Sum.inl p.1 ∧ v = .ref r ∧ H r = some (.lst ((F p.1).map V.int)) := by
  obtain ⟨p, hp, a, r, b, c⟩ := paired_get h hi
  exact ⟨p, r, hp, a, b, c⟩
theorem same_sheets {K : PySem.W.Frag} {H : Hp} {F : Int → List Int} : ∀ {kvs kvs' : List (Key × V)} {pl : Plan}, IsSheet H kvs pl F → IsSheet H kvs' pl F → Paired (fun p q : Key × V => p.1 = q.1 ∧ SameW K H p.2 q.2) kvs kvs'
  | _, _, _, .nil, h => by cases h; exact .nil
  | _, _, _, .cons a t, .cons b u => by
    obtain ⟨a1, r, a2, a3⟩ := a
    obtain ⟨b1, r', b2, b3⟩ := b
    exact .cons ⟨a1.trans b1.symm, by rw [a2, b2]; exact .lst (SqL.of a3) (SqL.of b3)⟩ (same_sheets t u)
theorem keepAt_in {g : List Pl} {h : Int} {pl : Plan} (kb : keepsB g h pl = true) (pk : PlOk g h pl) : pl.length ≤ g.length := pl_len pk.nd fun kv hm => ⟨(keeps_in kb (List.mem_map.mpr ⟨kv, hm, rfl⟩)).1, (keeps_in kb (List.mem_map.mpr ⟨kv, hm, rfl⟩)).2.1⟩
end Gm

namespace K08
open PySem L2 Gm
/-! # the text by places -/
def top (i : Nat) : Stmt := PySem.Challenge.pw_crownwalk_k08_shows.main.body.getD i (.Pass ⟨0, 0, 0, 0⟩)
abbrev sKeeps : Stmt := top 1
abbrev sKeptAt : Stmt := top 2
abbrev sFollowed : Stmt := top 3
abbrev sFeared : Stmt := top 4
abbrev sShows : Stmt := top 5
abbrev sShownAt : Stmt := top 6
abbrev sCell : Stmt := top 8
abbrev sPick : Stmt := top 9
abbrev sMix : Stmt := top 11
abbrev sPlace : Stmt := top 12
abbrev sGame : Stmt := top 13
abbrev sDrawn : Stmt := top 14
abbrev sLKept : Stmt := top 15
abbrev sLKeeps : Stmt := top 16
abbrev sGoes : Stmt := top 17
abbrev sLost : Stmt := top 18
abbrev sLFeared : Stmt := top 19
abbrev sLCounts : Stmt := top 20
abbrev sLShown : Stmt := top 21
abbrev sSheet : Stmt := top 22
abbrev sLaw : Stmt := top 23
/-! # promises -/
def spCell (K : PySem.W.Frag) : Sp := fun vs H Q _ => ∃ (a : Addr) (ns : List Int) (k : Nat), vs = [.ref a, .int k] ∧ SqL K H a (ns.map V.int) ∧ Q (.int (ns.getD k 0)) H
def spPick (K : PySem.W.Frag) : Sp := fun vs H Q _ => ∃ (a : Addr) (ns : List Int) (k : Nat), vs = [.ref a, .int k] ∧ SqL K H a (ns.map V.int) ∧ ∀ z : Int, Q (.int z) H
def spMix : Sp := fun vs H Q _ => ∃ (c k : Int), vs = [.int c, .int k] ∧ ∀ z : Int, Q (.int z) H
def spPlace : Sp := fun vs H Q _ => ∃ (n m sp lo : Int), vs = [.int n, .int m, .int sp, .int lo] ∧ 0 < m ∧ m < 1000 ∧ 0 < sp ∧ sp < 1000 ∧ ∀ (v : V) (H' : Hp) (p : Pl), WfPl m p → IsPl H' v p → Same H H' → Q v H'
def spGame (K : PySem.W.Frag) : Sp := fun vs H Q _ => ∃ (a : Addr) (ns : List Int) (st m : Nat) (sp lo : Int), vs = [.ref a, .int st, .int m, .int sp, .int lo] ∧ SqL K H a (ns.map V.int) ∧ 0 < m ∧ m < 1000 ∧ 0 < sp ∧ sp < 1000 ∧
  ∀ (v : V) (H' : Hp) (g : List Pl), g.length = m → (∀ p ∈ g, WfPl m p) → IsGm H' v g → Same H H' → Q v H'
structure Txt (mg : Str → Option Value) : Prop where
  len : mg "len" = none
  range : mg "range" = none
  sorted : mg "sorted" = none
  set : mg "set" = none
  tuple : mg "tuple" = none
  isi : mg "isinstance" = none
  int : mg "int" = none
  bool : mg "bool" = none
  list : mg "list" = none
  all : mg "all" = none
  dict : mg "dict" = none
  max : mg "max" = none
  enumerate : mg "enumerate" = none
section
variable {P : Program} {w : World} {K : PySem.W.Frag} {mg : Str → Option Value} {base : Heap}
/-! # _law_cell_at -/
theorem scCell : FnScope ["script", "k"] ["script", "k"] (defScope sCell) := ⟨rfl, rfl, rfl, by decide +kernel, rfl, by decide +kernel, by decide +kernel⟩
theorem ok_cell {f : Addr} {fd : FuncData} (F : Fun K "_law_cell_at" "_law_cell_at" sCell f fd) (T : Txt mg) : FnOk P w K mg base CX0 1 f fd ["script", "k"] (spCell K) := by
  refine F.ok scCell (fun vs H Q E h => ?_) (fun cdv A outer s H vs Q E hr h => ?_)
  · obtain ⟨a, ns, k, rfl, _⟩ := h
    rfl
  · obtain ⟨a, ns, k, rfl, hS, q⟩ := h
    refine ⟨_, pss_cons (ps_if (pt_cmpR op_lt (pv 1) (pe_callB call_len_seq (by rfl) T.len PySem.boot_len (pa_cons (pv 0) pa_nil)) (nomark _)) (pss_one (ps_ret (pe_ix ix_list (pv 0) (pv 1) (fun _ _ => rfl)))) pss_nil) (pss_one (ps_ret pe_int)), ?_⟩
    refine ⟨_, rfl, _, rfl, a, _, rfl, .inl hS, _, _, rfl, rfl, _, rfl, ?_⟩
    refine ite2 (fun hlt => ?_) (fun hlt => ?_)
    · have hk : k < ns.length := by
        have := of_decide_eq_true hlt
        rw [List.length_map] at this
        omega
      refine ⟨_, rfl, _, rfl, a, _, _, _, rfl, rfl, hS, atI_nat (v := V.int (ns.getD k 0)) (by simp [List.getD_eq_getElem?_getD, hk]), q⟩
    · have hk : ¬ k < ns.length := fun z => hlt (decide_eq_true (by rw [List.length_map]; omega))
      have e : ns.getD k 0 = 0 := by rw [List.getD_eq_getElem?_getD, List.getElem?_eq_none (by omega)]; rfl
      rw [e] at q
      exact q
/-! # _law_pick -/
theorem scPick : FnScope ["script", "k"] ["script", "k"] (defScope sPick) := ⟨rfl, rfl, rfl, by decide +kernel, rfl, by decide +kernel, by decide +kernel⟩
theorem ok_pick {f f1 : Addr} {fd fd1 : FuncData} (F : Fun K "_law_pick" "_law_pick" sPick f fd) (T : Txt mg) (F1 : Fun K "_law_cell_at" "_law_cell_at" sCell f1 fd1) (m1 : mg "_law_cell_at" = some (.ref f1)) (b1 : Binds K fd1 ["script", "k"] []) :
    FnOk P w K mg base CX0 2 f fd ["script", "k"] (spPick K) := by
  have G1 : FnOk P w K mg base CX0 1 f1 fd1 ["script", "k"] (spCell K) := ok_cell F1 T
  refine F.ok scPick (fun vs H Q E h => ?_) (fun cdv A outer s H vs Q E hr h => ?_)
  · obtain ⟨a, ns, k, rfl, _⟩ := h
    rfl
  · obtain ⟨a, ns, k, rfl, hS, q⟩ := h
    refine ⟨_, pss_cons (ps_if (pt_cmpR op_lt (pv 1) (pe_callB call_len_seq (by rfl) T.len PySem.boot_len (pa_cons (pv 0) pa_nil)) (nomark _)) (pss_one (ps_ret (pe_ix ix_list (pv 0) (pv 1) (fun _ _ => rfl)))) pss_nil)
      (pss_one (ps_ret (pe_op op_fdiv (pe_op op_mod (pe_op op_mul (pe_op op_add (pe_op op_add (pe_call G1 hr rfl m1 F1.kp b1 .nil pass0 (pa_cons (pv 0) (pa_cons pe_int pa_nil))) (pe_op op_mul pe_int (pv 1))) pe_int) pe_int) pe_int) pe_int))), ?_⟩
    refine ⟨_, rfl, _, rfl, a, _, rfl, .inl hS, _, _, rfl, rfl, _, rfl, ?_⟩
    refine ite2 (fun hlt => ?_) (fun hlt => ?_)
    · have hk : k < ns.length := by
        have := of_decide_eq_true hlt
        rw [List.length_map] at this
        omega
      exact ⟨_, rfl, _, rfl, a, _, _, _, rfl, rfl, hS, atI_nat (v := V.int (ns.getD k 0)) (by simp [List.getD_eq_getElem?_getD, hk]), q _⟩
    · refine ⟨_, rfl, a, ns, 0, rfl, hS, _, rfl, _, _, rfl, rfl, .inl ⟨by decide, by decide⟩, _, _, rfl, rfl, _, _, rfl, rfl, _, _, rfl, rfl, .inr ⟨by decide, by decide⟩, _, _, rfl, rfl, (by show (0 : Int) < 2147483647; decide), _, _, rfl, rfl, ⟨by decide, by decide⟩, q _⟩
/-! # _law_mix -/
theorem scMix : FnScope ["cell", "k"] ["cell", "k"] (defScope sMix) := ⟨rfl, rfl, rfl, by decide +kernel, rfl, by decide +kernel, by decide +kernel⟩
theorem ok_mix {f : Addr} {fd : FuncData} (F : Fun K "_law_mix" "_law_mix" sMix f fd) : FnOk P w K mg base CX0 1 f fd ["cell", "k"] spMix := by
  refine F.ok scMix (fun vs H Q E h => ?_) (fun cdv A outer s H vs Q E hr h => ?_)
  · obtain ⟨c, k, rfl, _⟩ := h
    rfl
  · obtain ⟨c, k, rfl, q⟩ := h
    refine ⟨_, pss_one (ps_ret (pe_op op_mod (pe_op op_add (pe_op op_mul (pv 0) pe_int) (pe_op op_mul (pv 1) pe_int)) pe_int)), ?_⟩
    exact ⟨_, rfl, _, _, rfl, rfl, .inr ⟨by decide, by decide⟩, _, rfl, _, _, rfl, rfl, .inr ⟨by decide, by decide⟩, _, _, rfl, rfl, _, _, rfl, rfl, (by show (0 : Int) < 2147483647; decide), q _⟩
/-! # _law_place -/
theorem scPlace : FnScope ["number", "many", "spread", "low", "left", "ways", "k"] ["number", "many", "spread", "low"] (defScope sPlace) := ⟨rfl, rfl, rfl, by decide +kernel, rfl, by decide +kernel, by decide +kernel⟩
theorem ok_place {f : Addr} {fd : FuncData} (F : Fun K "_law_place" "_law_place" sPlace f fd) (T : Txt mg) : FnOk P w K mg base CX0 1 f fd ["number", "many", "spread", "low"] spPlace := by
  refine F.ok scPlace (fun vs H Q E h => ?_) (fun cdv A outer s H vs Q E hr h => ?_)
  · obtain ⟨n, m, sp, lo, rfl, _⟩ := h
    rfl
  · obtain ⟨n, m, sp, lo, rfl, m0, m1, s0, s1, q⟩ := h
    refine ⟨_, pss_cons (ps_set (i := 4) scPlace.nd rfl (Or.inl rfl) (pe_op op_fdiv (pv 0) (pe_op op_mul pe_int (pv 2))))
      (pss_cons (ps_set (i := 5) scPlace.nd rfl (Or.inl rfl) (pe_lst (pa_cons (pe_op op_mod (pv 4) (pv 1)) pa_nil)))
      (pss_cons (ps_for PassesOwn.never rfl (pi_range1 rfl T.range (pa_cons (pe_op op_mod (pe_op op_fdiv (pv 0) (pe_op op_mul pe_int (pv 2))) pe_int) pa_nil)) (pg_name (i := 6) scPlace.nd rfl (Or.inl rfl))
        (pss_cons (ps_set (i := 4) scPlace.nd rfl (Or.inl rfl) (pe_op op_fdiv (pv 4) (pv 1)))
        (pss_one (ps_expr (pe_bm PySem.F.plainAttrs_list PySem.F.slot_list_append PySem.F.type_list_append mt_append (pv 5) (pa_cons (pe_op op_mod (pv 4) (pv 1)) pa_nil))))))
      (pss_cons (ps_set (i := 5) scPlace.nd rfl (Or.inl rfl) (pe_callB (call_sortedI rfl) rfl T.sorted PyProof.Rows.boot_sorted (pa_cons (pe_callTy (call_setI rfl) rfl T.set PyProof.Rows.boot_set (pa_cons (pv 5) pa_nil)) pa_nil)))
      (pss_one (ps_ret (pe_tup (pa_cons (pe_op op_mod (pv 0) pe_int) (pa_cons (pe_op op_add (pv 3) (pe_op op_mod (pe_op op_fdiv (pv 0) pe_int) (pv 2))) (pa_cons (pe_callTy call_tuple_of rfl T.tuple PyProof.Rows.boot_tuple (pa_cons (pv 5) pa_nil)) pa_nil))))))))), ?_⟩
    -- left, ways
    refine ⟨_, rfl, _, rfl, _, _, rfl, rfl, .inl ⟨by decide, by decide⟩, _, _, rfl, rfl, ⟨by show 0 < 6 * sp; omega, by show 6 * sp < _; omega⟩, ?_⟩
    refine ⟨_, rfl, _, rfl, _, _, rfl, rfl, m0, by show 1 ≤ sizeLine; decide, fun l hl => ?_⟩
    -- the range's end
    refine ⟨_, rfl, _, rfl, _, _, rfl, rfl, .inl ⟨by decide, by decide⟩, _, _, rfl, rfl, ⟨by show 0 < 2 * sp; omega, by show 2 * sp < _; omega⟩, _, _, rfl, rfl, (by show (0 : Int) < 3; decide), _, rfl, ?_⟩
    have hr1 : 0 ≤ n / (2 * sp) % 3 := Int.emod_nonneg _ (by decide)
    have hr2 : n / (2 * sp) % 3 < 3 := Int.emod_lt_of_pos _ (by decide)
    refine ⟨by omega, by omega, for_range (n := (n / (2 * sp) % 3).toNat) (fun i σ H2 => ∃ (lf : Int) (kv : Option V) (ws : List Int), σ = [some (.int n), some (.int m), some (.int sp), some (.int lo), some (.int lf), some (.ref l), kv] ∧ Same H H2 ∧
      H2 l = some (.lst (ws.map V.int)) ∧ ws ≠ [] ∧ ws.length ≤ i + 1 ∧ ∀ x ∈ ws, 0 ≤ x ∧ x < m) ?_ ?_ ?_⟩
    · refine ⟨_, none, [n / (6 * sp) % m], rfl, Same.upd hl, upd_same, by simp, by simp, ?_⟩
      intro x hx
      rw [List.mem_singleton] at hx
      subst hx
      exact ⟨Int.emod_nonneg _ (by omega), Int.emod_lt_of_pos _ m0⟩
    · rintro i σ H2 hi ⟨lf, kv, ws, rfl, sm, hl2, hne, hlen, hin⟩
      refine ⟨_, rfl, _, rfl, _, _, rfl, rfl, ⟨m0, by omega⟩, ?_⟩
      refine ⟨_, rfl, .inl ⟨rfl, _, SqL.of hl2⟩, _, rfl, _, rfl, _, _, rfl, rfl, m0, l, _, _, rfl, rfl, hl2, (by rw [List.length_map, sizeLine_eq]; omega), ?_⟩
      refine ⟨_, _, ws ++ [lf / m % m], rfl, sm.upd' hl, by rw [upd_same]; simp, by simp, by simp; omega, ?_⟩
      intro x hx
      rcases List.mem_append.mp hx with z | z
      · exact hin x z
      · rw [List.mem_singleton] at z
        subst z
        exact ⟨Int.emod_nonneg _ (by omega), Int.emod_lt_of_pos _ m0⟩
    · rintro σ H2 ⟨lf, kv, ws, rfl, sm, hl2, hne, hlen, hin⟩
      have hz : ws.length ≤ 3 := by omega
      refine ⟨_, rfl, l, ws, rfl, SqL.of hl2, by omega, fun l2 h2 => ?_⟩
      refine ⟨l2, _, _, rfl, upd_same, ?_, fun l3 ns h3 p1 p2 p3 => ?_⟩
      · have := ddp_len ws
        omega
      have e3 : H2 l3 = none := by
        by_cases z : l3 = l2
        · subst z; exact h2
        · rw [upd_ne z] at h3; exact h3
      have n23 : l2 ≠ l3 := fun z => by rw [z, upd_same] at h3; cases h3
      refine ⟨_, rfl, _, _, rfl, rfl, (by show (0 : Int) < 2; decide), _, rfl, _, rfl, _, _, rfl, rfl, ⟨by decide, by decide⟩, _, rfl, _, _, rfl, rfl, s0, _, _, rfl, rfl, ?_⟩
      refine ⟨_, rfl, l3, ns.map V.int, rfl, .inl ⟨SqL.of upd_same, fun l4 h4 => ⟨by show 3 ≤ sizeLine; decide, fun l5 h5 => ?_⟩⟩⟩
      have n43 : l4 ≠ l3 := fun z => by rw [z, upd_same] at h4; cases h4
      rw [upd_ne n43] at h4
      have n42 : l4 ≠ l2 := fun z => by rw [z, upd_same] at h4; cases h4
      rw [upd_ne n42] at h4
      have n54 : l5 ≠ l4 := fun z => by rw [z, upd_same] at h5; cases h5
      rw [upd_ne n54] at h5
      have n53 : l5 ≠ l3 := fun z => by rw [z, upd_same] at h5; cases h5
      rw [upd_ne n53] at h5
      have n52 : l5 ≠ l2 := fun z => by rw [z, upd_same] at h5; cases h5
      rw [upd_ne n52] at h5
      refine q _ _ (n % 2, lo + n / 2 % sp, ns) ⟨?_, ?_, ?_, ?_⟩ ⟨l5, l4, rfl, upd_same, by rw [upd_ne (Ne.symm n54), upd_same]⟩ ?_
      · show n % 2 = 0 ∨ n % 2 = 1
        omega
      · intro z
        have z' : ns = [] := z
        obtain ⟨x, hx⟩ := List.exists_mem_of_ne_nil ws hne
        have := (p3 x).mpr (List.any_eq_true.mpr ⟨x, hx, by simp⟩)
        rw [z'] at this
        cases this
      · intro x hx
        have := (p3 x).mp hx
        obtain ⟨y, hy, e⟩ := List.any_eq_true.mp this
        have e' : y = x := by simpa using e
        subst e'
        exact hin y hy
      · exact sorted_lt p1 p2 p3
      · exact (((sm.upd' (sm.free h2)).upd' (sm.free e3)).upd' (sm.free h4)).upd' (sm.free h5)
/-! # _law_game -/
theorem scGame : FnScope ["script", "start", "many", "spread", "low", "rows", "k"] ["script", "start", "many", "spread", "low"] (defScope sGame) := ⟨rfl, rfl, rfl, by decide +kernel, rfl, by decide +kernel, by decide +kernel⟩
theorem ok_game {f f1 f2 f3 : Addr} {fd fd1 fd2 fd3 : FuncData} (F : Fun K "_law_game" "_law_game" sGame f fd) (T : Txt mg)
    (G1 : FnOk P w K mg base CX0 2 f1 fd1 ["script", "k"] (spPick K)) (k1 : PySem.W.keepIn K (.ref f1) = true) (m1 : mg "_law_pick" = some (.ref f1)) (b1 : Binds K fd1 ["script", "k"] [])
    (G2 : FnOk P w K mg base CX0 1 f2 fd2 ["cell", "k"] spMix) (k2 : PySem.W.keepIn K (.ref f2) = true) (m2 : mg "_law_mix" = some (.ref f2)) (b2 : Binds K fd2 ["cell", "k"] [])
    (G3 : FnOk P w K mg base CX0 1 f3 fd3 ["number", "many", "spread", "low"] spPlace) (k3 : PySem.W.keepIn K (.ref f3) = true) (m3 : mg "_law_place" = some (.ref f3)) (b3 : Binds K fd3 ["number", "many", "spread", "low"] []) :
    FnOk P w K mg base CX0 3 f fd ["script", "start", "many", "spread", "low"] (spGame K) := by
  refine F.ok scGame (fun vs H Q E h => ?_) (fun cdv A outer s H vs Q E hr h => ?_)
  · obtain ⟨a, ns, st, m, sp, lo, rfl, _⟩ := h
    rfl
  · obtain ⟨a, ns, st, m, sp, lo, rfl, hS, m0, m1', s0, s1, q⟩ := h
    have hr1 : Room 1 _ := hr.mono (by decide)
    refine ⟨_, pss_cons (ps_set (i := 5) scGame.nd rfl (Or.inl rfl) (pe_lst pa_nil))
      (pss_cons (ps_for PassesOwn.never rfl (pi_range1 rfl T.range (pa_cons (pv 2) pa_nil)) (pg_name (i := 6) scGame.nd rfl (Or.inl rfl))
        (pss_one (ps_expr (pe_bm PySem.F.plainAttrs_list PySem.F.slot_list_append PySem.F.type_list_append mt_append (pv 5) (pa_cons
          (pe_call G3 hr1 rfl m3 k3 b3 .nil pass0 (pa_cons (pe_call G2 hr1 rfl m2 k2 b2 .nil pass0 (pa_cons (pe_call G1 hr rfl m1 k1 b1 .nil pass0 (pa_cons (pv 0) (pa_cons (pe_op op_add (pv 1) (pv 6)) pa_nil))) (pa_cons (pv 6) pa_nil))) (pa_cons (pv 2) (pa_cons (pv 3) (pa_cons (pv 4) pa_nil))))) pa_nil)))))
      (pss_one (ps_ret (pe_callTy call_tuple_of rfl T.tuple PyProof.Rows.boot_tuple (pa_cons (pv 5) pa_nil))))), ?_⟩
    refine ⟨Nat.zero_le _, fun l hl => ?_⟩
    refine ⟨_, rfl, _, rfl, by omega, by omega, for_range (n := ((m : Nat) : Int).toNat) (fun i σ H2 => ∃ (kv : Option V) (vs : List V) (g : List Pl), σ = [some (.ref a), some (.int st), some (.int m), some (.int sp), some (.int lo), some (.ref l), kv] ∧ Same H H2 ∧
      H2 l = some (.lst vs) ∧ Paired (IsPl H2) vs g ∧ g.length = i ∧ ∀ p ∈ g, WfPl m p) ?_ ?_ ?_⟩
    · exact ⟨none, [], [], rfl, Same.upd hl, upd_same, .nil, rfl, by simp⟩
    · rintro i σ H2 hi ⟨kv, vs, g, rfl, sm, hl2, hp, hlen, hw⟩
      refine ⟨_, rfl, .inl ⟨rfl, _, SqL.of hl2⟩, _, rfl, _, rfl, _, rfl, _, _, rfl, rfl, a, ns, st + i, (by simp), sm.seq hS, fun z1 => ?_⟩
      refine ⟨_, rfl, z1, _, rfl, fun z2 => ?_⟩
      refine ⟨_, rfl, _, rfl, _, rfl, z2, m, sp, lo, rfl, by omega, by omega, s0, s1, fun v H3 p wf ip sm3 => ?_⟩
      have hvl := paired_len hp
      refine ⟨l, vs, v, rfl, rfl, sm3 l _ hl2, (by rw [sizeLine_eq]; omega), ?_⟩
      have sm4 : TK H2 (upd H3 l (.lst (vs ++ [v]))) := fun b xs e => by
        rw [upd_ne (ne_of e hl2 (by intro z; cases z))]
        exact sm3 b _ e
      have sm5 : TK H3 (upd H3 l (.lst (vs ++ [v]))) := fun b xs e => by
        rw [upd_ne (ne_of e (sm3 l _ hl2) (by intro z; cases z))]
        exact e
      refine ⟨_, vs ++ [v], g ++ [p], rfl, (sm.trans sm3).upd' hl, upd_same, (pls_tk hp sm4).snoc (ip.tk sm5), by simp [hlen], ?_⟩
      intro p' hp'
      rcases List.mem_append.mp hp' with z | z
      · exact hw p' z
      · rw [List.mem_singleton] at z
        subst z
        exact wf
    · rintro σ H2 ⟨kv, vs, g, rfl, sm, hl2, hp, hlen, hw⟩
      refine ⟨_, rfl, l, vs, rfl, .inl ⟨SqL.of hl2, fun t ht => ?_⟩⟩
      exact q _ _ g (by omega) hw ⟨t, vs, rfl, upd_same, pls_tk hp (Same.upd ht).tk⟩ (sm.upd' (sm.free ht))
/-! # _law_whole -/
end
end K08

namespace K08
open PySem L2 Gm
abbrev nKeeps : List Str := ["game", "hand", "plan"]
theorem scKeeps : FnScope nKeeps ["game", "hand", "plan"] (defScope sKeeps) := ⟨rfl, rfl, rfl, by decide +kernel, rfl, by decide +kernel, by decide +kernel⟩
theorem lcKeeps1 : LcOk (defScope sKeeps) nKeeps ["key", "game", "hand", "plan"] [none, some 0, some 1, some 2] (mkSc [(".0", .local), ("key", .local), ("len", .globalImplicit), ("kept", .globalImplicit), ("game", .free), ("hand", .free), ("plan", .free)]) :=
  ⟨rfl, by decide +kernel, by decide +kernel, by decide +kernel, by decide +kernel, rfl, by decide +kernel⟩
abbrev nKeptAt : List Str := ["game", "hand", "plan", "place"]
theorem scKeptAt : FnScope nKeptAt ["game", "hand", "plan", "place"] (defScope sKeptAt) := ⟨rfl, rfl, rfl, by decide +kernel, rfl, by decide +kernel, by decide +kernel⟩
theorem lcKeptAt1 : LcOk (defScope sKeptAt) nKeptAt ["way", "game", "place", "plan"] [none, some 0, some 3, some 2] (mkSc [(".0", .local), ("way", .local), ("game", .free), ("place", .free), ("plan", .free)]) :=
  ⟨rfl, by decide +kernel, by decide +kernel, by decide +kernel, by decide +kernel, rfl, by decide +kernel⟩
abbrev nFollowed : List Str := ["game", "hand", "plan", "place"]
theorem scFollowed : FnScope nFollowed ["game", "hand", "plan", "place"] (defScope sFollowed) := ⟨rfl, rfl, rfl, by decide +kernel, rfl, by decide +kernel, by decide +kernel⟩
def spFollowed : Sp := fun vs H Q _ => ∃ (v : V) (g : List Pl) (h : Int) (a : Addr) (pl : Plan) (k : Int) (p : Pl), vs = [v, .int h, .ref a, .int k] ∧ IsGm H v g ∧ Rd H a (.dK (kvP pl)) ∧ 0 ≤ k ∧ g[k.toNat]? = some p ∧ (p.1 = h → ∃ i, look pl k = some (some i)) ∧
  ∀ (t : Addr) (H' : Hp), H' t = some (.tup ((nxt g h pl k).map V.int)) → Same H H' → Q (.ref t) H'
def spKeptAt : Sp := fun vs H Q _ => ∃ (v : V) (g : List Pl) (h : Int) (a : Addr) (pl : Plan) (k : Int) (p : Pl), vs = [v, .int h, .ref a, .int k] ∧ IsGm H v g ∧ Rd H a (.dK (kvP pl)) ∧ 0 ≤ k ∧ g[k.toNat]? = some p ∧ (p.1 = h → ∃ i, look pl k = some (some i)) ∧ p.2.2.length < 1000 ∧
  ∀ (H' : Hp), Same H H' → Q (.bl (keptB g h pl k)) H'
def spKeeps : Sp := fun vs H Q _ => ∃ (v : V) (g : List Pl) (h : Int) (a : Addr) (pl : Plan), vs = [v, .int h, .ref a] ∧ IsGm H v g ∧ g.length < 1000 ∧ (∀ p ∈ g, p.2.2.length < 1000) ∧ Rd H a (.dK (kvP pl)) ∧ pl.length < 1000 ∧ PlOk g h pl ∧
  ∀ (H' : Hp), Same H H' → Q (.bl (keepsB g h pl)) H'
section
variable {P : Program} {w : World} {K : PySem.W.Frag} {mg : Str → Option Value} {base : Heap}
theorem ok_followed {f  : Addr} {fd  : FuncData} (F : Fun K "followed" "followed" sFollowed f fd) (T : Txt mg) :
    FnOk P w K mg base CX0 1 f fd ["game", "hand", "plan", "place"] spFollowed := by
  refine F.ok scFollowed (fun vs H Q E h => ?_) (fun cdv A outer s H vs Q E hr h => ?_)
  · obtain ⟨v, g, h, a, pl, k, p, rfl, _⟩ := h
    rfl
  · obtain ⟨v, g, h, a, pl, k, p, rfl, ig, hpl, h0, hk, hv, q⟩ := h
    obtain ⟨ga, vs, rfl, hga, hp⟩ := id ig
    obtain ⟨_, pa, pb, hat, ha, hb⟩ := gm_at hga hp (fun _ _ z => z) h0 hk
    have hu := hu_of hr
    refine ⟨_, pss_cons (ps_if (pt_cmpR op_eq (pe_ix ix_tup (pe_ix ix_tup (pv 0) (pv 3) (fun _ _ => rfl)) pe_int (fun _ _ => rfl)) (pv 1) (nomark _)) (pss_one (ps_ret (pe_tup (pa_cons (pe_dget hu (pv 2) (pv 3) (fun _ _ => rfl)) pa_nil)))) pss_nil)
      (pss_one (ps_ret (pe_ix ix_tup (pe_ix ix_tup (pv 0) (pv 3) (fun _ _ => rfl)) pe_int (fun _ _ => rfl)))), ?_⟩
    refine ⟨_, rfl, _, rfl, ga, vs, _, _, rfl, rfl, SqT.of hga, hat, pa, _, _, _, rfl, rfl, SqT.of ha, rfl, _, rfl, rfl, _, rfl, ?_⟩
    refine ite2 (fun hh => ?_) (fun hh => ?_)
    · have he : p.1 = h := V.int.inj (of_decide_eq_true hh)
      obtain ⟨i, hi⟩ := hv he
      have hget := look_dget hpl k
      rw [hi] at hget
      refine ⟨_, rfl, _, rfl, a, _, rfl, hget, by show 1 ≤ sizeLine; decide, fun t ht => ?_⟩
      refine q t _ ?_ (Same.upd ht)
      rw [upd_same, nxt_own hk he hi]
      rfl
    · have he : ¬ p.1 = h := fun z => hh (decide_eq_true (by rw [z]))
      refine ⟨_, rfl, _, rfl, ga, vs, _, _, rfl, rfl, SqT.of hga, hat, pa, _, _, _, rfl, rfl, SqT.of ha, rfl, ?_⟩
      refine q pb H ?_ (Same.refl H)
      rw [nxt_other hk he]
      exact hb
theorem ok_keptat {f f1 : Addr} {fd fd1 : FuncData} (F : Fun K "kept" "kept" sKeptAt f fd) (T : Txt mg)
    (G1 : FnOk P w K mg base CX0 1 f1 fd1 ["game", "hand", "plan", "place"] spFollowed) (k1 : PySem.W.keepIn K (.ref f1) = true) (m1 : mg "followed" = some (.ref f1)) (b1 : Binds K fd1 ["game", "hand", "plan", "place"] []) :
    FnOk P w K mg base CX0 2 f fd ["game", "hand", "plan", "place"] spKeptAt := by
  refine F.ok scKeptAt (fun vs H Q E h => ?_) (fun cdv A outer s H vs Q E hr h => ?_)
  · obtain ⟨v, g, h, a, pl, k, p, rfl, _⟩ := h
    rfl
  · obtain ⟨v, g, h, a, pl, k, p, rfl, ig, hpl, h0, hk, hv, hwl, q⟩ := h
    obtain ⟨ga, vs, rfl, hga, hp⟩ := id ig
    have hu := hu_of hr
    refine ⟨_, pss_one (ps_ret (pe_callB (call_allL rfl) rfl T.all PyProof.Rows.boot_all (pa_cons (pe_lc rfl lcKeptAt1 (pi_tup (pe_call G1 (hr.mono (by decide)) rfl m1 k1 b1 .nil pass0 (pa_cons (pv 0) (pa_cons (pv 1) (pa_cons (pv 2) (pa_cons (pv 3) pa_nil)))))) (fun cl C ex s H => ⟨(pg_name (i := 0) lcKeptAt1.nd rfl (Or.inl rfl)), pif_nil, (pe_and (pe_cmpR (in_seqK K rfl) (pv 0) (pe_ix (ix_tupK K rfl) (pe_ix (ix_tupK K rfl) (pv 1) (pv 2) (fun _ _ => rfl)) pe_int (fun _ _ => rfl)) (by rfl)) (pe_one (pe_cmp (pc_din hu (pv 0) (pv 3)))))⟩)) pa_nil))), ?_⟩
    refine ⟨_, rfl, _, rfl, _, rfl, _, rfl, .ref ga, g, h, a, pl, k, p, rfl, ig, hpl, h0, hk, hv, fun t H1 ht sm1 => ?_⟩
    have hnl : (nxt g h pl k).length < 1000 := by
      by_cases he : p.1 = h
      · obtain ⟨i, hi⟩ := hv he
        rw [nxt_own hk he hi]; simp
      · rw [nxt_other hk he]; exact hwl
    obtain ⟨_, pa, pb, hat, ha, hb⟩ := gm_at hga hp (Same.tk (Same.refl H)) h0 hk
    refine ⟨t, rfl, ⟨_, SqT.of ht⟩, fun D hD => lc_tup (xs := (nxt g h pl k).map V.int) (fun i σ H2 => (∃ s0, σ = [s0, some (.ref ga), some (.int k), some (.ref a)]) ∧ Same H1 H2 ∧ H2 D = some (.lst ((((nxt g h pl k).map fun w => decide (w ∈ waysAt g k) && (look pl w).isSome).take i).map V.bl))) ?_ ?_ ?_ ?_⟩
    · exact ⟨⟨none, rfl⟩, Same.upd hD, upd_same⟩
    · rintro i σ H2 _ ⟨_, sm, _⟩
      exact SqT.of (sm t _ ht)
    · rintro i x σ H2 hi ⟨⟨s0, rfl⟩, sm, hD2⟩
      obtain ⟨z, rfl, hzi, hz⟩ := geti hi
      have smH : Same H H2 := sm1.trans sm
      have fin : ∀ b : Bool, b = (decide (z ∈ waysAt g k) && (look pl z).isSome) → ∃ ys, H2 D = some (.lst ys) ∧ ys.length < sizeLine ∧ (∃ s0', [some (V.int z), some (V.ref ga), some (V.int k), some (V.ref a)] = [s0', some (.ref ga), some (.int k), some (.ref a)]) ∧ Same H1 (upd H2 D (.lst (ys ++ [V.bl b]))) ∧
          (upd H2 D (.lst (ys ++ [V.bl b]))) D = some (.lst ((((nxt g h pl k).map fun w => decide (w ∈ waysAt g k) && (look pl w).isSome).take (i + 1)).map V.bl)) := fun b hb => by
        refine ⟨_, hD2, ?_, ⟨_, rfl⟩, sm.upd' hD, ?_⟩
        · rw [List.length_map, sizeLine_eq]
          have := List.length_take_le' i ((nxt g h pl k).map fun w => decide (w ∈ waysAt g k) && (look pl w).isSome)
          rw [List.length_map] at this
          omega
        · rw [upd_same, List.take_add_one, List.getElem?_map, hzi, hb]
          simp
      unfold gName
      refine iteT ?_
      refine ⟨_, rfl, _, rfl, _, rfl, ga, vs, _, _, rfl, rfl, SqT.of (smH ga _ hga), hat, pa, _, _, _, rfl, rfl, SqT.of (smH pa _ ha), rfl, pb, _, rfl, .inr (SqT.of (smH pb _ hb)), rfl, flatints _, _, rfl, ?_⟩
      rw [show (if false = true then !inV (V.int z) (p.2.2.map V.int) else inV (V.int z) (p.2.2.map V.int)) = decide (z ∈ p.2.2) from inVints _ _]
      refine ite2 (fun hin => ?_) (fun hin => ?_)
      · refine ⟨_, rfl, _, rfl, a, _, rfl, look_dget (smH.rd hpl) z, ?_⟩
        rw [isSome_ov]
        refine fin _ ?_
        rw [waysAt_of hk, hin]
        rfl
      · refine fin _ ?_
        rw [waysAt_of hk, decide_eq_false (fun y => hin (decide_eq_true y))]
        rfl
    · rintro σ H2 ⟨_, sm, hD2⟩
      rw [List.take_of_length_le (by simp)] at hD2
      refine ⟨D, _, rfl, SqL.of hD2, ?_⟩
      have e : (((nxt g h pl k).map fun w => decide (w ∈ waysAt g k) && (look pl w).isSome).all id) = keptB g h pl k := by
        unfold keptB
        rw [List.all_map]
        rfl
      rw [e]
      exact q H2 (sm1.trans sm)
theorem ok_keeps {f f1 : Addr} {fd fd1 : FuncData} (F : Fun K "keeps" "keeps" sKeeps f fd) (T : Txt mg)
    (G1 : FnOk P w K mg base CX0 2 f1 fd1 ["game", "hand", "plan", "place"] spKeptAt) (k1 : PySem.W.keepIn K (.ref f1) = true) (m1 : mg "kept" = some (.ref f1)) (b1 : Binds K fd1 ["game", "hand", "plan", "place"] []) :
    FnOk P w K mg base CX0 3 f fd ["game", "hand", "plan"] spKeeps := by
  refine F.ok scKeeps (fun vs H Q E h => ?_) (fun cdv A outer s H vs Q E hr h => ?_)
  · obtain ⟨v, g, h, a, pl, rfl, _⟩ := h
    rfl
  · obtain ⟨v, g, h, a, pl, rfl, ig, hgl, hgw, hpl, hpll, pk, q⟩ := h
    obtain ⟨ga, vs, rfl, hga, hp⟩ := id ig
    have hlv := paired_len hp
    refine ⟨_, pss_one (ps_ret (pe_callB (call_allL rfl) rfl T.all PyProof.Rows.boot_all (pa_cons (pe_frz (pe_lc rfl lcKeeps1 (pi_dict (pv 2)) (fun cl C ex s H => ⟨(pg_name (i := 0) lcKeeps1.nd rfl (Or.inl rfl)), pif_nil, (pe_and (pe_chain op_le op_lt pe_int (pv 0) (pe_callB (len_seqK K rfl) rfl T.len PySem.boot_len (pa_cons (pv 1) pa_nil))) (pe_one (pe_call G1 (hr.mono (by decide)) rfl m1 k1 b1 .nil pass0 (pa_cons (pv 1) (pa_cons (pv 2) (pa_cons (pv 3) (pa_cons (pv 0) pa_nil)))))))⟩))) pa_nil))), ?_⟩
    refine ⟨a, kvP pl, hpl, fun o => ?_⟩
    have tkf := tk_fz (o := o) hpl
    refine ⟨_, rfl, a, o, _, rfl, fz_at, fun D hD => lc_dict (fun i σ H2 => (∃ s0, σ = [s0, some (.ref ga), some (.int h), some (.ref a)]) ∧ Same (fz H a o (kvP pl)) H2 ∧ H2 D = some (.lst (((pl.map (keepAt g h pl)).take i).map V.bl))) ?_ ?_ ?_ ?_⟩
    · exact ⟨⟨none, rfl⟩, Same.upd hD, upd_same⟩
    · rintro i σ H2 _ ⟨_, sm, _⟩
      exact back_fz sm
    · rintro i kk vv σ H2 hi ⟨⟨s0, rfl⟩, sm, hD2⟩
      obtain ⟨j, ob, rfl, rfl, hj⟩ := kvP_get hi
      have tk2 : TK H H2 := fun b xs e => sm b _ (tkf b xs e)
      have fin : ∀ (b : Bool) (H3 : Hp), Same H2 H3 → b = keepAt g h pl (j, ob) → ∃ ys, H3 D = some (.lst ys) ∧ ys.length < sizeLine ∧ (∃ s0', [some (kV (Sum.inl j)), some (V.ref ga), some (V.int h), some (V.ref a)] = [s0', some (.ref ga), some (.int h), some (.ref a)]) ∧ Same (fz H a o (kvP pl)) (upd H3 D (.lst (ys ++ [V.bl b]))) ∧
          (upd H3 D (.lst (ys ++ [V.bl b]))) D = some (.lst (((pl.map (keepAt g h pl)).take (i + 1)).map V.bl)) := fun b H3 sm3 hb => by
        refine ⟨_, sm3 D _ hD2, ?_, ⟨_, rfl⟩, (sm.trans sm3).upd' hD, ?_⟩
        · rw [List.length_map, sizeLine_eq]
          have := List.length_take_le' i (pl.map (keepAt g h pl))
          rw [List.length_map] at this
          omega
        · rw [upd_same, List.take_add_one, List.getElem?_map, hj, hb]
          simp
      unfold gName
      refine iteT ?_
      refine ⟨_, rfl, _, _, rfl, rfl, _, rfl, ?_⟩
      refine ite2 (fun h0 => ?_) (fun h0 => ?_)
      · have h0' : 0 ≤ j := of_decide_eq_true h0
        refine ⟨_, rfl, ga, vs, rfl, .inr (SqT.of (tk2 ga _ hga)), _, _, rfl, rfl, _, rfl, ?_⟩
        refine ite2 (fun h1 => ?_) (fun h1 => ?_)
        · have h1' : j < g.length := by
            have := of_decide_eq_true h1
            omega
          have hk : g[j.toNat]? = some (g[j.toNat]'(by omega)) := List.getElem?_eq_getElem (by omega)
          have hmem : (j, ob) ∈ pl := List.mem_of_getElem? hj
          refine ⟨_, rfl, _, rfl, _, rfl, _, rfl, .ref ga, g, h, a, pl, j, _, rfl, ig.tk tk2, .inr ⟨o, back_fz sm⟩, h0', hk, fun he => ?_, hgw _ (List.getElem_mem _), fun H3 sm3 => ?_⟩
          · obtain ⟨x, hx⟩ := pk.val j ob hmem _ h0' hk he
            exact ⟨x, by rw [look_of pk.nd hmem, hx]⟩
          · refine fin _ H3 sm3 ?_
            unfold keepAt
            simp only []
            rw [decide_eq_true h0', decide_eq_true h1']
            rfl
        · refine fin _ H2 (Same.refl H2) ?_
          unfold keepAt
          simp only []
          rw [decide_eq_true h0', decide_eq_false (fun z => h1 (decide_eq_true (by omega)))]
          rfl
      · refine ⟨_, rfl, ?_⟩
        refine iteF (fin _ H2 (Same.refl H2) ?_)
        unfold keepAt
        simp only []
        rw [decide_eq_false (fun z => h0 (decide_eq_true z))]
        rfl
    · rintro σ H2 ⟨_, sm, hD2⟩
      rw [kvP_len, List.take_of_length_le (by simp)] at hD2
      refine ⟨back_fz sm, D, _, rfl, SqL.of (by rw [back_ne (fun z => by rw [z, back_fz sm] at hD2; cases hD2)]; exact hD2), ?_⟩
      have e : ((pl.map (keepAt g h pl)).all id) = keepsB g h pl := by
        unfold keepsB
        rw [List.all_map]
        rfl
      rw [e]
      exact q _ (same_back sm)
end
end K08

namespace K08
open PySem L2 Gm Zk
abbrev nFeared : List Str := ["game", "hand"]
theorem scFeared : FnScope nFeared ["game", "hand"] (defScope sFeared) := ⟨rfl, rfl, rfl, by decide +kernel, rfl, by decide +kernel, by decide +kernel⟩
theorem lcFeared1 : LcOk (defScope sFeared) nFeared ["owner", "crown", "ways", "hand"] [none, none, none, some 1] (mkSc [(".0", .local), ("owner", .local), ("crown", .local), ("ways", .local), ("hand", .free)]) :=
  ⟨rfl, by decide +kernel, by decide +kernel, by decide +kernel, by decide +kernel, rfl, by decide +kernel⟩
def spFeared : Sp := fun vs H Q _ => ∃ (v : V) (g : List Pl) (h : Int), vs = [v, .int h] ∧ IsGm H v g ∧ g.length < 60 ∧
  ∀ (l : Addr) (ns : List Int) (H' : Hp), H l = none → H' l = some (.lst (ns.map V.int)) → Frd g h ns → Same H H' → Q (.ref l) H'
section
variable {P : Program} {w : World} {K : PySem.W.Frag} {mg : Str → Option Value} {base : Heap}
theorem ok_feared {f  : Addr} {fd  : FuncData} (F : Fun K "feared" "feared" sFeared f fd) (T : Txt mg) :
    FnOk P w K mg base CX0 1 f fd ["game", "hand"] spFeared := by
  refine F.ok scFeared (fun vs H Q E h => ?_) (fun cdv A outer s H vs Q E hr h => ?_)
  · obtain ⟨v, g, h, rfl, _⟩ := h
    rfl
  · obtain ⟨v, g, h, rfl, ig, hgl, q⟩ := h
    obtain ⟨ga, vs, rfl, hga, hp⟩ := id ig
    have hlv := paired_len hp
    refine ⟨_, pss_one (ps_ret (pe_callB (call_sortedI rfl) rfl T.sorted PyProof.Rows.boot_sorted (pa_cons (pe_callTy (call_setI rfl) rfl T.set PyProof.Rows.boot_set (pa_cons (pe_lc rfl lcFeared1 (pi_tup (pv 0)) (fun cl C ex s H => ⟨(pg_tupK K rfl (n := 3) rfl (pgs_cons (pg_name (i := 0) lcFeared1.nd rfl (Or.inl rfl)) (pgs_cons (pg_name (i := 1) lcFeared1.nd rfl (Or.inl rfl)) (pgs_cons (pg_name (i := 2) lcFeared1.nd rfl (Or.inl rfl)) pgs_nil))) rfl), (pif_one (pt_cmpR op_ne (pe_op op_mod (pv 1) pe_int) (pv 3) (nomark _))), (pv 1)⟩)) pa_nil)) pa_nil))), ?_⟩
    refine ⟨_, rfl, ga, rfl, ⟨_, SqT.of hga⟩, fun D hD => lc_tup (xs := vs) (fun i σ H2 => (∃ s0 s1 s2, σ = [s0, s1, s2, some (.int h)]) ∧ Same H H2 ∧ H2 D = some (.lst ((((g.take i).filter fun p => decide (p.2.1 % 2 ≠ h)).map (·.2.1)).map V.int))) ?_ ?_ ?_ ?_⟩
    · exact ⟨⟨none, none, none, rfl⟩, Same.upd hD, upd_same⟩
    · rintro i σ H2 _ ⟨_, sm, _⟩
      exact SqT.of (sm ga _ hga)
    · rintro i x σ H2 hi ⟨⟨s0, s1, s2, rfl⟩, sm, hD2⟩
      obtain ⟨p, hpi, ip⟩ := paired_get hp hi
      obtain ⟨pa, pb, rfl, ha, hb⟩ := ip.tk sm.tk
      refine ⟨pa, _, rfl, SqT.of ha, rfl, _, _, rfl, _, _, rfl, _, _, rfl, rfl, ?_⟩
      refine ⟨_, rfl, _, _, rfl, rfl, (by show (0 : Int) < 2; decide), _, rfl, rfl, _, rfl, ?_⟩
      rw [neV]
      refine ite2 (fun hn => ?_) (fun hn => ?_)
      · refine ⟨_, rfl, _, hD2, ?_, ⟨_, _, _, rfl⟩, sm.upd' hD, ?_⟩
        · rw [List.length_map, List.length_map, sizeLine_eq]
          have l1 := List.length_filter_le (fun p : Pl => decide (p.2.1 % 2 ≠ h)) (g.take i)
          have l2 := List.length_take_le' i g
          omega
        · rw [upd_same, take_filter_g hpi, if_pos hn]
          simp
      · refine ⟨⟨_, _, _, rfl⟩, sm, ?_⟩
        rw [take_filter_g hpi, if_neg hn]
        simpa using hD2
    · rintro σ H2 ⟨_, sm, hD2⟩
      rw [hlv, List.take_length] at hD2
      have hl : ((g.filter fun p => decide (p.2.1 % 2 ≠ h)).map (·.2.1)).length ≤ g.length := by
        rw [List.length_map]; exact List.length_filter_le _ _
      generalize hws : (g.filter fun p => decide (p.2.1 % 2 ≠ h)).map (·.2.1) = ws at hD2 hl
      refine ⟨D, ws, rfl, SqL.of hD2, by omega, fun l2 h2 => ?_⟩
      refine ⟨l2, _, _, rfl, upd_same, ?_, fun l3 ns h3 p1 p2 p3 => ?_⟩
      · have := ddp_len ws
        omega
      have e3 : H2 l3 = none := by
        by_cases z : l3 = l2
        · subst z; exact h2
        · rw [upd_ne z] at h3; exact h3
      refine q l3 ns _ (sm.free e3) upd_same ⟨sorted_lt p1 p2 p3, fun c => ?_⟩ ((sm.upd' (sm.free h2)).upd' (sm.free e3))
      rw [p3, List.any_eq_true]
      constructor
      · rintro ⟨y, hy, e⟩
        have e' : y = c := by simpa using e
        subst e'
        rw [← hws] at hy
        obtain ⟨p, hpf, e2⟩ := List.mem_map.mp hy
        obtain ⟨m1, m2⟩ := List.mem_filter.mp hpf
        exact ⟨p, m1, e2, by rw [← e2]; exact of_decide_eq_true m2⟩
      · rintro ⟨p, hp1, e1, e2⟩
        refine ⟨c, ?_, by simp⟩
        rw [← hws]
        exact List.mem_map.mpr ⟨p, List.mem_filter.mpr ⟨hp1, decide_eq_true (by rw [e1]; exact e2)⟩, e1⟩
end
end K08

namespace K08
open PySem L2 Gm Zk
abbrev nShows : List Str := ["game", "hand", "plan", "paper", "crowns"]
theorem scShows : FnScope nShows ["game", "hand", "plan", "paper"] (defScope sShows) := ⟨rfl, rfl, rfl, by decide +kernel, rfl, by decide +kernel, by decide +kernel⟩
theorem lcShows1 : LcOk (defScope sShows) nShows ["place", "crowns", "game", "hand", "paper", "plan"] [none, some 4, some 0, some 1, some 3, some 2] (mkSc [(".0", .local), ("place", .local), ("shown_at", .globalImplicit), ("crowns", .free), ("game", .free), ("hand", .free), ("paper", .free), ("plan", .free)]) :=
  ⟨rfl, by decide +kernel, by decide +kernel, by decide +kernel, by decide +kernel, rfl, by decide +kernel⟩
abbrev nShownAt : List Str := ["game", "hand", "plan", "numbers", "crowns", "place", "own", "way", "at", "crown", "fall"]
theorem scShownAt : FnScope nShownAt ["game", "hand", "plan", "numbers", "crowns", "place"] (defScope sShownAt) := ⟨rfl, rfl, rfl, by decide +kernel, rfl, by decide +kernel, by decide +kernel⟩
def spShownAt : Sp := fun vs H Q _ => ∃ (v : V) (g : List Pl) (h : Int) (a : Addr) (pl : Plan) (d : Addr) (kvs : List (Key × V)) (F : Int → List Int) (cl : Addr) (ns : List Int) (k : Int), vs = [v, .int h, .ref a, .ref d, .ref cl, .int k] ∧ IsGm H v g ∧ (∀ p ∈ g, WfPl g.length p) ∧ g.length < 1000 ∧ Rd H a (.dK (kvP pl)) ∧ PlOk g h pl ∧ keepsB g h pl = true ∧ Rd H d (.dK kvs) ∧ IsSheet H kvs pl F ∧ (∀ k ∈ pl.map (·.1), (F k).length = ns.length) ∧ H cl = some (.lst (ns.map V.int)) ∧ ns.length < 1000 ∧ k ∈ pl.map (·.1) ∧
  ∀ H', Same H H' → Q (.bl (placeOk g h pl ns F k)) H'
def spShows : Sp := fun vs H Q _ => ∃ (v : V) (g : List Pl) (h : Int) (a : Addr) (pl : Plan) (d : Addr) (kvs : List (Key × V)) (F : Int → List Int) (ns : List Int), vs = [v, .int h, .ref a, .ref d] ∧ IsGm H v g ∧ (∀ p ∈ g, WfPl g.length p) ∧ g.length < 60 ∧ H a = some (.dK (kvP pl)) ∧ pl.length < 1000 ∧ PlOk g h pl ∧ H d = some (.dK kvs) ∧ a ≠ d ∧ IsSheet H kvs pl F ∧ Frd g h ns ∧ (∀ k ∈ pl.map (·.1), (F k).length = ns.length) ∧
  ∀ H', Same H H' → Q (.bl (keepsB g h pl && shownB g h pl ns F)) H'
section
variable {P : Program} {w : World} {K : PySem.W.Frag} {mg : Str → Option Value} {base : Heap}
theorem ok_shownat {f f1 : Addr} {fd fd1 : FuncData} (F : Fun K "shown_at" "shown_at" sShownAt f fd) (T : Txt mg)
    (G1 : FnOk P w K mg base CX0 1 f1 fd1 ["game", "hand", "plan", "place"] spFollowed) (k1 : PySem.W.keepIn K (.ref f1) = true) (m1 : mg "followed" = some (.ref f1)) (b1 : Binds K fd1 ["game", "hand", "plan", "place"] []) :
    FnOk P w K mg base CX0 2 f fd ["game", "hand", "plan", "numbers", "crowns", "place"] spShownAt := by
  refine F.ok scShownAt (fun vs H Q E h => ?_) (fun cdv A outer s H vs Q E hr h => ?_)
  · obtain ⟨v, g, h, a, pl, d, kvs, F, cl, ns, k, rfl, _⟩ := h
    rfl
  · obtain ⟨v, g, h, a, pl, d, kvs, Fn, cl, ns, k, rfl, ig, wf, hgl, hpl, pk, kb, hd, sh, hFl, hcl, hnsl, hkk, q⟩ := h
    obtain ⟨ga, vs, rfl, hga, hp⟩ := id ig
    have hu := hu_of hr
    obtain ⟨k0, kl, knx⟩ := keeps_in kb hkk
    obtain ⟨p, hk⟩ := at_in k0 kl
    have hc : crw g k = p.2.1 := crw_of hk
    refine ⟨_, pss_cons (ps_set (i := 6) scShownAt.nd rfl (Or.inl rfl) (pe_ix ix_tup (pe_ix ix_tup (pv 0) (pv 5) (fun _ _ => rfl)) pe_int (fun _ _ => rfl)))
      (pss_cons (ps_for PassesOwn.never rfl (pi_tup (pe_call G1 (hr.mono (by decide)) rfl m1 k1 b1 .nil pass0 (pa_cons (pv 0) (pa_cons (pv 1) (pa_cons (pv 2) (pa_cons (pv 5) pa_nil)))))) (pg_name (i := 7) scShownAt.nd rfl (Or.inl rfl)) (pss_one (ps_for PassesOwn.never rfl (pi_enum rfl T.enumerate (pv 4)) (pg_tup (n := 2) rfl (pgs_cons (pg_name (i := 8) scShownAt.nd rfl (Or.inl rfl)) (pgs_cons (pg_name (i := 9) scShownAt.nd rfl (Or.inl rfl)) pgs_nil)) rfl) (pss_cons (ps_set (i := 10) scShownAt.nd rfl (Or.inl rfl) (pe_ifExp (pt_cmpR op_eq (pv 9) (pv 6) (nomark _)) pe_int pe_int))
          (pss_one (ps_if (PW.pt (pw_and (pt_cmpR op_ge (pv 9) (pv 6) (nomark _)) (pw_and1 (pt_cmpR op_gt (pe_op op_add (pe_ix ix_list (pe_dget hu (pv 3) (pv 7) (fun _ _ => rfl)) (pv 8) (fun _ _ => rfl)) (pv 10)) (pe_ix ix_list (pe_dget hu (pv 3) (pv 5) (fun _ _ => rfl)) (pv 8) (fun _ _ => rfl)) (nomark _))))) (pss_one (ps_ret pe_bl)) pss_nil))))))
      (pss_one (ps_ret pe_bl))), ?_⟩
    obtain ⟨hga0, pa, pb, hat, ha, hb⟩ := gm_at hga hp (fun _ _ z => z) k0 hk
    refine ⟨_, rfl, _, rfl, ga, vs, _, _, rfl, rfl, SqT.of hga0, hat, pa, _, _, _, rfl, rfl, SqT.of ha, rfl, ?_⟩
    refine ⟨_, rfl, _, rfl, _, rfl, _, rfl, .ref ga, g, h, a, pl, k, p, rfl, ig, hpl, k0, hk, fun e => pk.own hkk k0 hk e, fun t H1 ht sm1 => ?_⟩
    refine ⟨t, rfl, ⟨_, SqT.of ht⟩, for_tup (xs := (nxt g h pl k).map V.int) (fun i σ H2 => (∃ s7 s8 s9 s10, σ = [some (.ref ga), some (.int h), some (.ref a), some (.ref d), some (.ref cl), some (.int k), some (.int p.2.1), s7, s8, s9, s10]) ∧ Same H1 H2 ∧ ((nxt g h pl k).take i).all (wayOk g ns Fn k) = true) ?_ ?_ ?_ ?_⟩
    · exact ⟨⟨none, none, none, none, rfl⟩, Same.refl _, rfl⟩
    · rintro i σ H2 _ ⟨_, sm2, _⟩
      exact SqT.of (sm2 t _ ht)
    · rintro i x σ H2 hi ⟨⟨s7, s8, s9, s10, rfl⟩, sm2, hall⟩
      obtain ⟨wy, rfl, hwi, hwm⟩ := geti hi
      have hwk : wy ∈ pl.map (·.1) := knx wy hwm
      have sm02 : Same H H2 := sm1.trans sm2
      obtain ⟨r1, hr1, hR1⟩ := sh.val hkk
      obtain ⟨r2, hr2, hR2⟩ := sh.val hwk
      refine ⟨_, rfl, cl, rfl, ⟨_, SqL.of (sm02 cl _ hcl)⟩, for_enum (xs := ns.map V.int) (fun j σ H3 => (∃ s8 s9 s10, σ = [some (.ref ga), some (.int h), some (.ref a), some (.ref d), some (.ref cl), some (.int k), some (.int p.2.1), some (.int wy), s8, s9, s10]) ∧ Same H2 H3 ∧ (List.range j).all (cellOk g ns Fn k wy) = true) ?_ ?_ ?_ ?_⟩
      · exact ⟨⟨_, _, _, rfl⟩, Same.refl _, rfl⟩
      · rintro j σ H3 _ ⟨_, sm3, _⟩
        exact SqL.of (sm3 cl _ (sm02 cl _ hcl))
      · rintro j x tt σ H3 hj htt ⟨⟨u8, u9, u10, rfl⟩, sm3, hall3⟩
        obtain ⟨c, rfl, hcj, hcm⟩ := geti hj
        have hj' : j < ns.length := get_lt hcj
        have smT : Same H3 (upd H3 tt (.tup [.int j, .int c])) := Same.upd htt
        have hT : upd H3 tt (.tup [.int j, .int c]) tt = some (.tup [.int j, .int c]) := upd_same
        generalize upd H3 tt (.tup [.int j, .int c]) = H4 at smT hT
        have sm04 : Same H H4 := (sm02.trans sm3).trans smT
        have cgd : ns.getD j 0 = c := getD_get hcj
        have g1 : atI ((Fn k).map V.int) (j : Int) = some (V.int ((Fn k).getD j 0)) := atI_nat (by rw [List.getElem?_map, List.getElem?_eq_getElem (by rw [hFl k hkk]; exact hj'), List.getD_eq_getElem?_getD, List.getElem?_eq_getElem (by rw [hFl k hkk]; exact hj')]; rfl)
        have g2 : atI ((Fn wy).map V.int) (j : Int) = some (V.int ((Fn wy).getD j 0)) := atI_nat (by rw [List.getElem?_map, List.getElem?_eq_getElem (by rw [hFl wy hwk]; exact hj'), List.getD_eq_getElem?_getD, List.getElem?_eq_getElem (by rw [hFl wy hwk]; exact hj')]; rfl)
        have gd1 : DGet H4 d (.int k) (some (.ref r1)) := .inl ⟨kvs, Sum.inl k, sm04.rd hd, rfl, hr1.symm⟩
        have gd2 : DGet H4 d (.int wy) (some (.ref r2)) := .inl ⟨kvs, Sum.inl wy, sm04.rd hd, rfl, hr2.symm⟩
        have good : ∀ f10 : Option V, cellOk g ns Fn k wy j = true → (∃ s8 s9 s10, [some (V.ref ga), some (V.int h), some (V.ref a), some (V.ref d), some (V.ref cl), some (V.int k), some (V.int p.2.1), some (V.int wy), some (V.int (j : Int)), some (V.int c), f10] = [some (.ref ga), some (.int h), some (.ref a), some (.ref d), some (.ref cl), some (.int k), some (.int p.2.1), some (.int wy), s8, s9, s10]) ∧ Same H2 H4 ∧ (List.range (j + 1)).all (cellOk g ns Fn k wy) = true := fun f10 hok => by
          refine ⟨⟨_, _, _, rfl⟩, sm3.trans smT, ?_⟩
          rw [List.range_succ, List.all_append, hall3]
          simp [hok]
        have bad : cellOk g ns Fn k wy j = false → Q (.bl false) H4 := fun hno => by
          have e : placeOk g h pl ns Fn k = false := by
            unfold placeOk
            rw [List.all_eq_false]
            refine ⟨wy, hwm, ?_⟩
            unfold wayOk
            rw [Bool.not_eq_true, List.all_eq_false]
            exact ⟨j, List.mem_range.mpr hj', by rw [hno]; decide⟩
          have := q H4 sm04
          rw [e] at this
          exact this
        have tail : ∀ fall : Int, fall = (if c = p.2.1 then 1 else 0) → ∀ (D : Ends), (∀ σ' H', ((∃ s8 s9 s10, σ' = [some (V.ref ga), some (V.int h), some (V.ref a), some (V.ref d), some (V.ref cl), some (V.int k), some (V.int p.2.1), some (V.int wy), s8, s9, s10]) ∧ Same H2 H' ∧ (List.range (j + 1)).all (cellOk g ns Fn k wy) = true) → D.nx σ' H') → (∀ v H', Q v H' → D.rt v H') → True := fun _ _ _ _ _ => trivial
        refine ⟨tt, _, rfl, SqT.of hT, rfl, _, _, rfl, _, _, rfl, rfl, ?_⟩
        refine ⟨_, rfl, _, rfl, rfl, _, rfl, ?_⟩
        by_cases hcp : c = p.2.1
        · rw [show decide (V.int c = V.int p.2.1) = true from decide_eq_true (by rw [hcp])]
          refine iteT ?_
          refine ⟨_, rfl, _, rfl, _, _, rfl, rfl, _, rfl, ?_⟩
          rw [show decide (p.2.1 ≤ c) = true from decide_eq_true (by omega)]
          refine iteT ?_
          refine ⟨_, rfl, _, rfl, d, _, rfl, gd2, _, rfl, r2, _, _, _, rfl, rfl, SqL.of (sm04 r2 _ hR2), g2, _, rfl, _, _, rfl, rfl, _, rfl, _, rfl, d, _, rfl, gd1, _, rfl, r1, _, _, _, rfl, rfl, SqL.of (sm04 r1 _ hR1), g1, _, _, rfl, rfl, _, rfl, ?_⟩
          have ek : cellOk g ns Fn k wy j = decide ((Fn wy).getD j 0 + 1 ≤ (Fn k).getD j 0) := by
            unfold cellOk
            rw [cgd, hc, if_pos hcp, show decide (p.2.1 ≤ c) = true from decide_eq_true (by omega)]
            rfl
          refine ite2 (fun hlt => ?_) (fun hlt => ?_)
          · exact bad (by rw [ek]; exact decide_eq_false (by have := of_decide_eq_true hlt; omega))
          · exact good _ (by rw [ek]; exact decide_eq_true (by
              rcases Int.lt_or_le ((Fn k).getD j 0) ((Fn wy).getD j 0 + 1) with z | z
              · exact absurd (decide_eq_true z) hlt
              · exact z))
        · rw [show decide (V.int c = V.int p.2.1) = false from decide_eq_false (fun z => hcp (V.int.inj z))]
          refine iteF ?_
          refine ⟨_, rfl, _, rfl, _, _, rfl, rfl, _, rfl, ?_⟩
          refine ite2 (fun hge => ?_) (fun hge => ?_)
          · have hge' : p.2.1 ≤ c := of_decide_eq_true hge
            refine ⟨_, rfl, _, rfl, d, _, rfl, gd2, _, rfl, r2, _, _, _, rfl, rfl, SqL.of (sm04 r2 _ hR2), g2, _, rfl, _, _, rfl, rfl, _, rfl, _, rfl, d, _, rfl, gd1, _, rfl, r1, _, _, _, rfl, rfl, SqL.of (sm04 r1 _ hR1), g1, _, _, rfl, rfl, _, rfl, ?_⟩
            have ek : cellOk g ns Fn k wy j = decide ((Fn wy).getD j 0 + 0 ≤ (Fn k).getD j 0) := by
              unfold cellOk
              rw [cgd, hc, if_neg hcp, show decide (p.2.1 ≤ c) = true from hge]
              rfl
            refine ite2 (fun hlt => ?_) (fun hlt => ?_)
            · exact bad (by rw [ek]; exact decide_eq_false (by have := of_decide_eq_true hlt; omega))
            · exact good _ (by rw [ek]; exact decide_eq_true (by
                rcases Int.lt_or_le ((Fn k).getD j 0) ((Fn wy).getD j 0 + 0) with z | z
                · exact absurd (decide_eq_true z) hlt
                · exact z))
          · refine iteF (good _ ?_)
            unfold cellOk
            rw [cgd, hc, decide_eq_false (fun z => hge (decide_eq_true z))]
            rfl
      · rintro σ H3 ⟨⟨u8, u9, u10, rfl⟩, sm3, hall3⟩
        rw [List.length_map] at hall3
        refine ⟨⟨_, _, _, _, rfl⟩, sm2.trans sm3, ?_⟩
        rw [List.take_add_one, hwi, List.all_append, hall]
        show (true && ([wy].all (wayOk g ns Fn k))) = true
        rw [List.all_cons, show wayOk g ns Fn k wy = true from hall3]
        rfl
    · rintro σ H2 ⟨⟨s7, s8, s9, s10, rfl⟩, sm2, hall⟩
      rw [List.length_map, List.take_length] at hall
      have := q H2 (sm1.trans sm2)
      rw [show placeOk g h pl ns Fn k = true from hall] at this
      exact this
theorem ok_shows {f f1 f2 f3 : Addr} {fd fd1 fd2 fd3 : FuncData} (F : Fun K "shows" "shows" sShows f fd) (T : Txt mg)
    (G1 : FnOk P w K mg base CX0 3 f1 fd1 ["game", "hand", "plan"] spKeeps) (k1 : PySem.W.keepIn K (.ref f1) = true) (m1 : mg "keeps" = some (.ref f1)) (b1 : Binds K fd1 ["game", "hand", "plan"] [])
    (G2 : FnOk P w K mg base CX0 1 f2 fd2 ["game", "hand"] spFeared) (k2 : PySem.W.keepIn K (.ref f2) = true) (m2 : mg "feared" = some (.ref f2)) (b2 : Binds K fd2 ["game", "hand"] [])
    (G3 : FnOk P w K mg base CX0 2 f3 fd3 ["game", "hand", "plan", "numbers", "crowns", "place"] spShownAt) (k3 : PySem.W.keepIn K (.ref f3) = true) (m3 : mg "shown_at" = some (.ref f3)) (b3 : Binds K fd3 ["game", "hand", "plan", "numbers", "crowns", "place"] []) :
    FnOk P w K mg base CX0 4 f fd ["game", "hand", "plan", "paper"] spShows := by
  refine F.ok scShows (fun vs H Q E h => ?_) (fun cdv A outer s H vs Q E hr h => ?_)
  · obtain ⟨v, g, h, a, pl, d, kvs, F, ns, rfl, _⟩ := h
    rfl
  · obtain ⟨v, g, h, a, pl, d, kvs, Fn, ns, rfl, ig, wf, hgl, hpl, hpll, pk, hd, nad, sh, frd, hFl, q⟩ := h
    obtain ⟨ga, vs, rfl, hga, hp⟩ := id ig
    have hgw : ∀ p ∈ g, p.2.2.length < 1000 := fun p hp' => by have := wf_len (wf p hp'); omega
    have hnsl := frd.len
    refine ⟨_, pss_cons (ps_if (pt_not (pt_val (pe_call G1 (hr.mono (by decide)) rfl m1 k1 b1 .nil pass0 (pa_cons (pv 0) (pa_cons (pv 1) (pa_cons (pv 2) pa_nil)))))) (pss_one (ps_ret pe_bl)) pss_nil)
      (pss_cons (ps_set (i := 4) scShows.nd rfl (Or.inr rfl) (pe_call G2 (hr.mono (by decide)) rfl m2 k2 b2 .nil pass0 (pa_cons (pv 0) (pa_cons (pv 1) pa_nil))))
      (pss_one (ps_ret (pe_callB (call_allL rfl) rfl T.all PyProof.Rows.boot_all (pa_cons (pe_frz (pe_lc rfl lcShows1 (pi_dict (pv 2)) (fun cl C ex s H => ⟨(pg_name (i := 0) lcShows1.nd rfl (Or.inl rfl)), pif_nil, (pe_call G3 (hr.mono (by decide)) rfl m3 k3 b3 .nil pass0 (pa_cons (pv 2) (pa_cons (pv 3) (pa_cons (pv 5) (pa_cons (pv 4) (pa_cons (pv 1) (pa_cons (pv 0) pa_nil)))))))⟩))) pa_nil))))), ?_⟩
    refine ⟨_, rfl, _, rfl, _, rfl, .ref ga, g, h, a, pl, rfl, ig, by omega, hgw, .inl hpl, hpll, pk, fun H1 sm1 => ?_⟩
    refine ⟨_, rfl, ?_⟩
    cases kb : keepsB g h pl with
    | false =>
      refine iteT ?_
      have := q H1 sm1
      rw [kb] at this
      exact this
    | true =>
      refine iteF ?_
      refine ⟨_, rfl, _, rfl, .ref ga, g, h, rfl, ig.tk sm1.tk, hgl, fun CR ns2 H2 hCR hCR2 frd2 sm2 => ?_⟩
      have ens := frd2.uniq frd
      subst ens
      have sm02 := sm1.trans sm2
      have hpl2 := sm02 a _ hpl
      refine ⟨a, kvP pl, .inl hpl2, fun o => ?_⟩
      have tkf := tk_fz (o := o) (.inl hpl2)
      have other : ∀ b u, b ≠ a → H2 b = some u → fz H2 a o (kvP pl) b = some u := fun b u hb e => by rw [fz_ne hb]; exact e
      have hdf := other d _ (Ne.symm nad) (sm02 d _ hd)
      have hCf := other CR _ (fun z => by rw [z, hpl2] at hCR2; cases hCR2) hCR2
      have shf : IsSheet (fz H2 a o (kvP pl)) kvs pl Fn := sh.tr fun r u e => other r _ (fun z => by rw [z, hpl] at e; cases e) (sm02 r _ e)
      refine ⟨_, rfl, a, o, _, rfl, fz_at, fun D hD => lc_dict (fun i σ H3 => (∃ s0, σ = [s0, some (.ref CR), some (.ref ga), some (.int h), some (.ref d), some (.ref a)]) ∧ Same (fz H2 a o (kvP pl)) H3 ∧ H3 D = some (.lst (((pl.map fun kv => placeOk g h pl ns2 Fn kv.1).take i).map V.bl))) ?_ ?_ ?_ ?_⟩
      · exact ⟨⟨none, rfl⟩, Same.upd hD, upd_same⟩
      · rintro i σ H3 _ ⟨_, sm, _⟩
        exact back_fz sm
      · rintro i kk vv σ H3 hi ⟨⟨s0, rfl⟩, sm, hD3⟩
        obtain ⟨j, ob, rfl, rfl, hj⟩ := kvP_get hi
        have hjk : j ∈ pl.map (·.1) := List.mem_map.mpr ⟨_, List.mem_of_getElem? hj, rfl⟩
        have tk3 : TK H H3 := fun b xs e => sm b _ (tkf b xs (sm02.tk b xs e))
        unfold gName
        refine iteT ?_
        refine ⟨_, rfl, _, rfl, _, rfl, _, rfl, _, rfl, _, rfl, .ref ga, g, h, a, pl, d, kvs, Fn, CR, ns2, j, rfl, ig.tk tk3, wf, by omega, .inr ⟨o, back_fz sm⟩, pk, kb, .inl (sm d _ hdf), shf.tr (fun r u e => sm r _ e), hFl, sm CR _ hCf, by omega, hjk, fun H4 sm4 => ?_⟩
        refine ⟨_, sm4 D _ hD3, ?_, ⟨_, rfl⟩, (sm.trans sm4).upd' hD, ?_⟩
        · rw [List.length_map, sizeLine_eq]
          have := List.length_take_le' i (pl.map fun kv => placeOk g h pl ns2 Fn kv.1)
          rw [List.length_map] at this
          omega
        · rw [upd_same, List.take_add_one, List.getElem?_map, hj]
          simp
      · rintro σ H3 ⟨_, sm, hD3⟩
        rw [kvP_len, List.take_of_length_le (by simp)] at hD3
        refine ⟨back_fz sm, D, _, rfl, SqL.of (by rw [back_ne (fun z => by rw [z, back_fz sm] at hD3; cases hD3)]; exact hD3), ?_⟩
        have e : ((pl.map fun kv => placeOk g h pl ns2 Fn kv.1).all id) = shownB g h pl ns2 Fn := by
          unfold shownB
          rw [List.all_map]
          rfl
        rw [e]
        have := q _ (sm02.trans (same_back sm))
        rw [kb] at this
        exact this
end
end K08

namespace K08
open PySem L2 Gm
abbrev nDrawn : List Str := ["script", "start", "game", "hand", "plan", "place", "number", "ways"]
theorem scDrawn : FnScope nDrawn ["script", "start", "game", "hand"] (defScope sDrawn) := ⟨rfl, rfl, rfl, by decide +kernel, rfl, by decide +kernel, by decide +kernel⟩
abbrev nLKept : List Str := ["game", "hand", "plan", "place", "held", "more", "goes", "out", "found"]
theorem scLKept : FnScope nLKept ["game", "hand", "plan"] (defScope sLKept) := ⟨rfl, rfl, rfl, by decide +kernel, rfl, by decide +kernel, by decide +kernel⟩
theorem lcLKept1 : LcOk (defScope sLKept) nLKept ["place"] [none] (mkSc [(".0", .local), ("place", .local)]) :=
  ⟨rfl, by decide +kernel, by decide +kernel, by decide +kernel, by decide +kernel, rfl, by decide +kernel⟩
theorem lcLKept2 : LcOk (defScope sLKept) nLKept ["way", "held"] [none, some 4] (mkSc [(".0", .local), ("way", .local), ("held", .free)]) :=
  ⟨rfl, by decide +kernel, by decide +kernel, by decide +kernel, by decide +kernel, rfl, by decide +kernel⟩
abbrev nLKeeps : List Str := ["game", "hand", "plan", "place", "step"]
theorem scLKeeps : FnScope nLKeeps ["game", "hand", "plan"] (defScope sLKeeps) := ⟨rfl, rfl, rfl, by decide +kernel, rfl, by decide +kernel, by decide +kernel⟩
theorem lcLKeeps1 : LcOk (defScope sLKeeps) nLKeeps ["way", "plan"] [none, some 2] (mkSc [(".0", .local), ("way", .local), ("plan", .free)]) :=
  ⟨rfl, by decide +kernel, by decide +kernel, by decide +kernel, by decide +kernel, rfl, by decide +kernel⟩
def spDrawn (K : PySem.W.Frag) : Sp := fun vs H Q _ => ∃ (a : Addr) (ns : List Int) (st : Nat) (v : V) (g : List Pl) (h : Int), vs = [.ref a, .int st, v, .int h] ∧ SqL K H a (ns.map V.int) ∧ IsGm H v g ∧ (∀ p ∈ g, WfPl g.length p) ∧ g.length < 1000 ∧
  ∀ (l : Addr) (pl : Plan) (H' : Hp), H l = none → H' l = some (.dK (kvP pl)) → Same H H' → PlOk g h pl → (∀ kv ∈ pl, 0 ≤ kv.1 ∧ kv.1 < g.length) → Q (.ref l) H'
def spLKept : Sp := fun vs H Q _ => ∃ (v : V) (g : List Pl) (h : Int) (a : Addr) (pl : Plan), vs = [v, .int h, .ref a] ∧ IsGm H v g ∧ (∀ p ∈ g, WfPl g.length p) ∧ g.length < 1000 ∧ Rd H a (.dK (kvP pl)) ∧ PlOk g h pl ∧ (∀ kv ∈ pl, 0 ≤ kv.1 ∧ kv.1 < g.length) ∧
  ∀ (l : Addr) (pl' : Plan) (H' : Hp), H l = none → H' l = some (.dK (kvP pl')) → Same H H' → PlOk g h pl' → (∀ kv ∈ pl', kv ∈ pl) → Q (.ref l) H'
def spLKeeps : Sp := fun vs H Q _ => ∃ (v : V) (g : List Pl) (h : Int) (a : Addr) (pl : Plan), vs = [v, .int h, .ref a] ∧ IsGm H v g ∧ g.length < 1000 ∧ (∀ p ∈ g, p.2.2.length < 1000) ∧ Rd H a (.dK (kvP pl)) ∧ PlOk g h pl ∧
  ∀ (H' : Hp), Same H H' → Q (.bl (keepsB g h pl)) H'
theorem wf_len {n : Nat} {p : Pl} (wf : WfPl n p) : p.2.2.length ≤ n := nodup_bound (wf.ris.imp fun {a b} h => by omega) wf.inn
theorem keptB_own {g : List Pl} {h : Int} {pl : Plan} {k x : Int} {p : Pl} (hp : g[k.toNat]? = some p) (e : p.1 = h) (hl : look pl k = some (some x)) : keptB g h pl k = (decide (x ∈ p.2.2) && (look pl x).isSome) := by
  unfold keptB
  rw [nxt_own hp e hl, waysAt_of hp]
  simp
theorem keptB_other {g : List Pl} {h : Int} {pl : Plan} {k : Int} {p : Pl} (hp : g[k.toNat]? = some p) (e : ¬ p.1 = h) : keptB g h pl k = decide (p.2.2.filter (fun w => !(look pl w).isSome) = []) := by
  unfold keptB
  rw [nxt_other hp e, waysAt_of hp, Bool.eq_iff_iff, decide_eq_true_eq, List.all_eq_true, List.filter_eq_nil_iff]
  constructor
  · intro z w hw
    have := z w hw
    simp only [Bool.and_eq_true] at this
    simp [this.2]
  · intro z w hw
    have := z w hw
    simp only [Bool.not_eq_true', Bool.not_eq_false] at this
    simp [hw, this]
section
variable {P : Program} {w : World} {K : PySem.W.Frag} {mg : Str → Option Value} {base : Heap}
theorem ok_drawn {f f1 f2 : Addr} {fd fd1 fd2 : FuncData} (F : Fun K "_law_drawn" "_law_drawn" sDrawn f fd) (T : Txt mg)
    (G1 : FnOk P w K mg base CX0 1 f1 fd1 ["cell", "k"] spMix) (k1 : PySem.W.keepIn K (.ref f1) = true) (m1 : mg "_law_mix" = some (.ref f1)) (b1 : Binds K fd1 ["cell", "k"] [])
    (G2 : FnOk P w K mg base CX0 2 f2 fd2 ["script", "k"] (spPick K)) (k2 : PySem.W.keepIn K (.ref f2) = true) (m2 : mg "_law_pick" = some (.ref f2)) (b2 : Binds K fd2 ["script", "k"] []) :
    FnOk P w K mg base CX0 3 f fd ["script", "start", "game", "hand"] (spDrawn K) := by
  refine F.ok scDrawn (fun vs H Q E h => ?_) (fun cdv A outer s H vs Q E hr h => ?_)
  · obtain ⟨a, ns, st, v, g, h, rfl, _⟩ := h
    rfl
  · obtain ⟨a, ns, st, v, g, h, rfl, hS, ig, wf, hgl, q⟩ := h
    obtain ⟨ga, vs, rfl, hga, hp⟩ := id ig
    have hlv := paired_len hp
    have hu := hu_of hr
    refine ⟨_, pss_cons (ps_set (i := 4) scDrawn.nd rfl (Or.inl rfl) pe_dnewK)
      (pss_cons (ps_for PassesOwn.never rfl (pi_range1 rfl T.range (pa_cons (pe_callB call_len_seq rfl T.len PySem.boot_len (pa_cons (pv 2) pa_nil)) pa_nil)) (pg_name (i := 5) scDrawn.nd rfl (Or.inl rfl)) (pss_cons (ps_set (i := 6) scDrawn.nd rfl (Or.inl rfl) (pe_call G1 (hr.mono (by decide)) rfl m1 k1 b1 .nil pass0 (pa_cons (pe_call G2 (hr.mono (by decide)) rfl m2 k2 b2 .nil pass0 (pa_cons (pv 0) (pa_cons (pe_op op_add (pv 1) (pv 5)) pa_nil))) (pa_cons (pv 5) pa_nil))))
        (pss_one (ps_if (pt_cmpR op_gt (pe_op op_mod (pv 6) pe_int) pe_int (nomark _)) (pss_cons (ps_dput hu (pv 4) (pv 5) pe_non (by rfl))
          (pss_cons (ps_set (i := 7) scDrawn.nd rfl (Or.inl rfl) (pe_ix ix_tup (pe_ix ix_tup (pv 2) (pv 5) (fun _ _ => rfl)) pe_int (fun _ _ => rfl)))
          (pss_one (ps_if (pt_cmpR op_eq (pe_ix ix_tup (pe_ix ix_tup (pv 2) (pv 5) (fun _ _ => rfl)) pe_int (fun _ _ => rfl)) (pv 3) (nomark _)) (pss_one (ps_dput hu (pv 4) (pv 5) (pe_ix ix_tup (pv 7) (pe_op op_mod (pe_op op_fdiv (pv 6) pe_int) (pe_callB call_len_seq rfl T.len PySem.boot_len (pa_cons (pv 7) pa_nil))) (fun _ _ => rfl)) (by rfl))) pss_nil)))) pss_nil))))
      (pss_one (ps_ret (pv 4)))), ?_⟩
    refine fun D hD => ?_
    refine ⟨_, rfl, ga, vs, rfl, .inr (SqT.of (by rw [upd_ne (ne_of_none hga hD)]; exact hga)), _, rfl, by omega, by omega, for_range (n := ((vs.length : Nat) : Int).toNat) (fun i σ H2 => ∃ (pv1 nv wv : Option V) (pl : Plan), σ = [some (.ref a), some (.int st), some (.ref ga), some (.int h), some (.ref D), pv1, nv, wv] ∧ Same H H2 ∧ H2 D = some (.dK (kvP pl)) ∧ PlOk g h pl ∧ (∀ kv ∈ pl, 0 ≤ kv.1 ∧ kv.1 < (i : Int))) ?_ ?_ ?_⟩
    · exact ⟨none, none, none, [], rfl, Same.upd hD, upd_same, PlOk.nil g h, fun kv hm => by cases hm⟩
    · rintro i σ H2 hi ⟨pv1, nv, wv, pl, rfl, sm, hD2, pk, hin⟩
      have hi' : i < g.length := by omega
      have hk : g[((i : Nat) : Int).toNat]? = some g[i] := by rw [Int.toNat_natCast]; exact List.getElem?_eq_getElem hi'
      obtain ⟨hga2, pa, pb, hat, ha, hb⟩ := gm_at hga hp sm.tk (k := ((i : Nat) : Int)) (by omega) hk
      have wfp := wf g[i] (List.getElem_mem _)
      have hpl := pl_len pk.nd hin
      have e0 : (0 : Int) + (i : Int) = ((i : Nat) : Int) := by omega
      unfold gName
      rw [e0]
      refine ⟨_, rfl, _, rfl, _, rfl, _, _, rfl, rfl, a, ns, st + i, (by simp), sm.seq hS, fun z1 => ?_⟩
      refine ⟨_, rfl, z1, _, rfl, fun z2 => ?_⟩
      refine ⟨_, rfl, _, _, rfl, rfl, (by show (0 : Int) < 4; decide), _, _, rfl, rfl, _, rfl, ?_⟩
      refine ite2 (fun hgt => ?_) (fun hgt => ?_)
      · refine ⟨_, rfl, _, rfl, D, _, rfl, dput hD2 (by omega) i none, ?_⟩
        have nD : ∀ b u, H2 b = some u → (∀ kvs, u ≠ .dK kvs) → upd H2 D (.dK (kvP (putP pl i none))) b = some u := fun b u e n => by
          rw [upd_ne (ne_of e hD2 (n _))]; exact e
        have hga3 := nD ga _ hga2 (fun _ z => by cases z)
        have ha3 := nD pa _ ha (fun _ z => by cases z)
        have hb3 := nD pb _ hb (fun _ z => by cases z)
        refine ⟨_, rfl, _, rfl, ga, vs, _, _, rfl, rfl, SqT.of hga3, hat, pa, _, _, _, rfl, rfl, SqT.of ha3, rfl, ?_⟩
        refine ⟨_, rfl, _, rfl, ga, vs, _, _, rfl, rfl, SqT.of hga3, hat, pa, _, _, _, rfl, rfl, SqT.of ha3, rfl, _, rfl, rfl, _, rfl, ?_⟩
        have hin1 : ∀ kv ∈ putP pl i none, 0 ≤ kv.1 ∧ kv.1 < ((i + 1 : Nat) : Int) := fun kv hm => by
          rcases mem_putP hm with z | ⟨z, _⟩
          · rw [z]; simp only []; omega
          · have := hin kv z; omega
        refine ite2 (fun hh => ?_) (fun hh => ?_)
        · have hwl : 0 < g[i].2.2.length := List.length_pos_iff.mpr wfp.ways
          refine ⟨_, rfl, _, rfl, _, _, rfl, rfl, ⟨by decide, by decide⟩, _, rfl, pb, _, rfl, .inr (SqT.of hb3), _, _, rfl, rfl, (by rw [List.length_map]; show (0 : Int) < (g[i].2.2.length : Int); omega), ?_⟩
          have c1 : 0 ≤ z2 / 4 % (g[i].2.2.length : Int) := Int.emod_nonneg _ (by omega)
          have c2 : z2 / 4 % (g[i].2.2.length : Int) < g[i].2.2.length := Int.emod_lt_of_pos _ (by omega)
          refine ⟨pb, _, _, _, rfl, rfl, SqT.of hb3, (by rw [List.length_map]; exact atints c1 c2), ?_⟩
          obtain ⟨y, hy⟩ : ∃ y, g[i].2.2.getD (z2 / 4 % (g[i].2.2.length : Int)).toNat 0 = y := ⟨_, rfl⟩
          rw [hy]
          have hl1 := pl_len (nd_putP pk.nd i none) hin1
          refine ⟨_, rfl, _, rfl, D, _, rfl, dput (pl := putP pl i none) upd_same (by omega) i (some y), ?_⟩
          refine ⟨_, _, _, putP (putP pl i none) i (some y), rfl, (sm.upd' hD).upd' hD, upd_same, pk.put (nd_putP pk.nd i none) (fun q hq n => ?_) (fun _ _ _ _ => ⟨y, rfl⟩), fun kv hm => ?_⟩
          · rcases mem_putP hq with z | z
            · exact absurd (by rw [z]) n
            · exact z.1
          · rcases mem_putP hm with z | ⟨z, _⟩
            · rw [z]; simp only []; omega
            · exact hin1 kv z
        · refine ⟨_, _, _, putP pl i none, rfl, sm.upd' hD, upd_same, pk.put pk.nd (fun q hq _ => hq) (fun p _ hp' he => ?_), hin1⟩
          rw [hk] at hp'
          cases hp'
          exact absurd (decide_eq_true (by rw [he])) hh
      · exact ⟨_, _, _, pl, rfl, sm, hD2, pk, fun kv hm => by have := hin kv hm; omega⟩
    · rintro σ H2 ⟨pv1, nv, wv, pl, rfl, sm, hD2, pk, hin⟩
      refine ⟨_, rfl, q D pl H2 hD hD2 sm pk fun kv hm => ?_⟩
      have := hin kv hm
      omega
theorem ok_lkeeps {f  : Addr} {fd  : FuncData} (F : Fun K "_law_keeps" "_law_keeps" sLKeeps f fd) (T : Txt mg) :
    FnOk P w K mg base CX0 1 f fd ["game", "hand", "plan"] spLKeeps := by
  refine F.ok scLKeeps (fun vs H Q E h => ?_) (fun cdv A outer s H vs Q E hr h => ?_)
  · obtain ⟨v, g, h, a, pl, rfl, _⟩ := h
    rfl
  · obtain ⟨v, g, h, a, pl, rfl, ig, hgl, hgw, hpl, pk, q⟩ := h
    obtain ⟨ga, vs, rfl, hga, hp⟩ := id ig
    have hlv := paired_len hp
    have hu := hu_of hr
    have hu64 := hr.units
    refine ⟨_, pss_cons (ps_frz (ps_for PassesOwn.never rfl (pi_dict (pv 2)) (pg_name (i := 3) scLKeeps.nd rfl (Or.inl rfl)) (pss_cons (ps_if (PW.pt (pw_or (pt_cmpR op_lt (pv 3) pe_int (nomark _)) (pw_or1 (pt_cmpR op_ge (pv 3) (pe_callB call_len_seq rfl T.len PySem.boot_len (pa_cons (pv 0) pa_nil)) (nomark _))))) (pss_one (ps_ret pe_bl)) pss_nil)
        (pss_cons (ps_set (i := 4) scLKeeps.nd rfl (Or.inl rfl) (pe_dget hu (pv 2) (pv 3) (fun _ _ => rfl)))
        (pss_one (ps_if (pt_cmpR op_eq (pe_ix ix_tup (pe_ix ix_tup (pv 0) (pv 3) (fun _ _ => rfl)) pe_int (fun _ _ => rfl)) (pv 1) (nomark _)) (pss_one (ps_if (PW.pt (pw_or (pt_cmpR (op_notIn_seq) (pv 4) (pe_ix ix_tup (pe_ix ix_tup (pv 0) (pv 3) (fun _ _ => rfl)) pe_int (fun _ _ => rfl)) (by rfl)) (pw_or1 (pt_cmp (pc_dnotin hu (pv 4) (pv 2)))))) (pss_one (ps_ret pe_bl)) pss_nil)) (pss_one (ps_if (pt_cmpR (op_neD hu64) (pe_lc rfl lcLKeeps1 (pi_tup (pe_ix ix_tup (pe_ix ix_tup (pv 0) (pv 3) (fun _ _ => rfl)) pe_int (fun _ _ => rfl))) (fun cl C ex s H => ⟨(pg_name (i := 0) lcLKeeps1.nd rfl (Or.inl rfl)), (pif_one (pt_cmp (pc_dnotin hu (pv 0) (pv 1)))), (pv 0)⟩)) (pe_lst pa_nil) (nomark _)) (pss_one (ps_ret pe_bl)) pss_nil))))))))
      (pss_one (ps_ret pe_bl)), ?_⟩
    refine ⟨a, kvP pl, hpl, fun o => ?_⟩
    have tkf := tk_fz (o := o) hpl
    refine ⟨_, rfl, a, o, _, rfl, fz_at, for_dict (fun i σ H2 => (∃ (pv1 sv : Option V), σ = [some (.ref ga), some (.int h), some (.ref a), pv1, sv]) ∧ Same (fz H a o (kvP pl)) H2 ∧ (pl.take i).all (keepAt g h pl) = true) ?_ ?_ ?_ ?_⟩
    · exact ⟨⟨none, none, rfl⟩, Same.refl _, rfl⟩
    · rintro i σ H2 _ ⟨_, sm, _⟩
      exact back_fz sm
    · rintro i kk vv σ H2 hi ⟨⟨pv1, sv, rfl⟩, sm, hall⟩
      obtain ⟨j, ob, rfl, rfl, hj⟩ := kvP_get hi
      have hmem : (j, ob) ∈ pl := List.mem_of_getElem? hj
      have hlook := look_of pk.nd hmem
      have tk2 : TK H H2 := fun b xs e => sm b _ (tkf b xs e)
      have bad : ∀ H3 : Hp, keepAt g h pl (j, ob) = false → Same (fz H a o (kvP pl)) H3 → H3 a = some (.frz o (.dK (kvP pl))) ∧ Q (.bl false) (back H a H3) := fun H3 hf sm3 => by
        refine ⟨back_fz sm3, ?_⟩
        have e : keepsB g h pl = false := by
          unfold keepsB
          rw [List.all_eq_false]
          exact ⟨_, hmem, by rw [hf]; decide⟩
        have := q _ (same_back sm3)
        rw [e] at this
        exact this
      have good : ∀ H3 : Hp, ∀ s1 s2 : Option V, keepAt g h pl (j, ob) = true → Same (fz H a o (kvP pl)) H3 → (∃ (pv1 sv : Option V), [some (V.ref ga), some (V.int h), some (V.ref a), s1, s2] = [some (.ref ga), some (.int h), some (.ref a), pv1, sv]) ∧ Same (fz H a o (kvP pl)) H3 ∧ (pl.take (i + 1)).all (keepAt g h pl) = true := fun H3 s1 s2 hf sm3 => by
        refine ⟨⟨_, _, rfl⟩, sm3, ?_⟩
        rw [List.take_add_one, hj, List.all_append, hall]
        simp [hf]
      unfold gName
      refine ⟨_, rfl, _, _, rfl, rfl, _, rfl, ?_⟩
      refine ite2 (fun h0 => ?_) (fun h0 => ?_)
      · refine iteT (bad H2 ?_ sm)
        unfold keepAt
        simp only []
        rw [decide_eq_false (by have := of_decide_eq_true h0; omega)]
        rfl
      · have h0' : 0 ≤ j := by
          rcases Int.lt_or_le j 0 with z | z
          · exact absurd (decide_eq_true z) h0
          · exact z
        refine ⟨_, rfl, _, rfl, ga, vs, rfl, .inr (SqT.of (tk2 ga _ hga)), _, _, rfl, rfl, _, rfl, ?_⟩
        refine ite2 (fun h1 => ?_) (fun h1 => ?_)
        · refine bad H2 ?_ sm
          unfold keepAt
          simp only []
          rw [decide_eq_true h0', decide_eq_false (by have := of_decide_eq_true h1; omega)]
          rfl
        · have h1' : j < g.length := by
            rcases Int.lt_or_le j vs.length with z | z
            · omega
            · exact absurd (decide_eq_true z) h1
          have ek : keepAt g h pl (j, ob) = keptB g h pl j := by
            unfold keepAt
            simp only []
            rw [decide_eq_true h0', decide_eq_true h1']
            rfl
          have hk : g[j.toNat]? = some (g[j.toNat]'(by omega)) := List.getElem?_eq_getElem (by omega)
          generalize hpe : g[j.toNat]'(by omega) = p at hk
          obtain ⟨hga2, pa, pb, hat, ha, hb⟩ := gm_at hga hp tk2 h0' hk
          have hget := look_dget (.inr ⟨o, back_fz sm⟩ : Rd H2 a (.dK (kvP pl))) j
          rw [hlook] at hget
          refine ⟨_, rfl, _, rfl, a, _, rfl, hget, ?_⟩
          refine ⟨_, rfl, _, rfl, ga, vs, _, _, rfl, rfl, SqT.of hga2, hat, pa, _, _, _, rfl, rfl, SqT.of ha, rfl, _, rfl, rfl, _, rfl, ?_⟩
          refine ite2 (fun hh => ?_) (fun hh => ?_)
          · have he : p.1 = h := V.int.inj (of_decide_eq_true hh)
            obtain ⟨x, rfl⟩ := pk.val j ob hmem p h0' hk he
            have eo := keptB_own hk he hlook
            refine ⟨_, rfl, _, rfl, _, rfl, ga, vs, _, _, rfl, rfl, SqT.of hga2, hat, pa, _, _, _, rfl, rfl, SqT.of ha, rfl, pb, _, rfl, .inr (SqT.of hb), rfl, flatints _, _, rfl, ?_⟩
            rw [show (if true = true then !inV (ov (some x)) (p.2.2.map V.int) else inV (ov (some x)) (p.2.2.map V.int)) = !decide (x ∈ p.2.2) from by rw [if_pos rfl]; exact congrArg _ (inVints _ _)]
            by_cases hx : x ∈ p.2.2
            · rw [decide_eq_true hx] at eo ⊢
              refine iteF ?_
              refine ⟨_, rfl, _, rfl, a, _, rfl, look_dget (.inr ⟨o, back_fz sm⟩) x, _, rfl, ?_⟩
              rw [isSome_ov]
              cases hs : (look pl x).isSome with
              | true => exact iteF (good H2 _ _ (by rw [ek, eo, hs]; rfl) sm)
              | false => exact iteT (bad H2 (by rw [ek, eo, hs]; rfl) sm)
            · rw [decide_eq_false hx] at eo ⊢
              refine iteT (iteT (bad H2 (by rw [ek, eo]; rfl) sm))
          · have he : ¬ p.1 = h := fun z => hh (decide_eq_true (by rw [z]))
            have eo := keptB_other (pl := pl) hk he
            have hwl : p.2.2.length < 1000 := hgw p (List.mem_of_getElem? hk)
            refine ⟨_, rfl, _, rfl, ga, vs, _, _, rfl, rfl, SqT.of hga2, hat, pa, _, _, _, rfl, rfl, SqT.of ha, rfl, pb, rfl, ⟨_, SqT.of hb⟩, fun D hD => lc_tup (xs := p.2.2.map V.int) (fun i σ H4 => (∃ s0, σ = [s0, some (.ref a)]) ∧ Same H2 H4 ∧ H4 D = some (.lst (((p.2.2.take i).filter fun w => !(look pl w).isSome).map V.int))) ?_ ?_ ?_ ?_⟩
            · exact ⟨⟨none, rfl⟩, Same.upd hD, upd_same⟩
            · rintro i σ H4 _ ⟨_, sm4, _⟩
              exact SqT.of (sm4 pb _ hb)
            · rintro i x σ H4 hi ⟨⟨s0, rfl⟩, sm4, hD4⟩
              obtain ⟨z, rfl, hzi, hz⟩ := geti hi
              refine ⟨_, rfl, _, rfl, a, _, rfl, look_dget (.inr ⟨o, sm4 a _ (back_fz sm)⟩) z, _, rfl, ?_⟩
              rw [isSome_ov]
              refine ite2 (fun hn => ?_) (fun hn => ?_)
              · refine ⟨_, rfl, _, hD4, ?_, ⟨_, rfl⟩, sm4.upd' hD, ?_⟩
                · rw [List.length_map, sizeLine_eq]
                  have l1 := List.length_filter_le (fun w => !(look pl w).isSome) (p.2.2.take i)
                  have l2 := List.length_take_le' i p.2.2
                  omega
                · rw [upd_same, take_filter_ext hzi, if_pos hn]
                  simp
              · refine ⟨⟨_, rfl⟩, sm4, ?_⟩
                rw [take_filter_ext hzi, if_neg hn]
                simpa using hD4
            · rintro σ H4 ⟨_, sm4, hD4⟩
              rw [List.length_map, List.take_length] at hD4
              refine ⟨Nat.zero_le _, fun E2 hE2 => ?_⟩
              refine ⟨_, _, rdlist (by rw [upd_ne (ne_of_none hD4 hE2)]; exact hD4), .lst upd_same .nil, shapedints _, by decide, ?_⟩
              rw [neList]
              refine ⟨_, rfl, ?_⟩
              have sm5 : Same (fz H a o (kvP pl)) (upd H4 E2 (.lst [])) := (sm.trans sm4).trans (Same.upd hE2)
              refine ite2 (fun hn => ?_) (fun hn => ?_)
              · refine bad _ ?_ sm5
                rw [ek, eo]
                simpa using hn
              · refine good _ _ _ ?_ sm5
                rw [ek, eo]
                simpa using hn
    · rintro σ H2 ⟨⟨pv1, sv, rfl⟩, sm, hall⟩
      rw [kvP_len, List.take_length] at hall
      refine ⟨back_fz sm, ?_⟩
      have := q _ (same_back sm)
      rw [show keepsB g h pl = true from hall] at this
      exact this
end
end K08

namespace K08
open PySem L2 Gm
section
variable {P : Program} {w : World} {K : PySem.W.Frag} {mg : Str → Option Value} {base : Heap}
theorem ok_lkept {f  : Addr} {fd  : FuncData} (F : Fun K "_law_kept" "_law_kept" sLKept f fd) (T : Txt mg) :
    FnOk P w K mg base CX0 1 f fd ["game", "hand", "plan"] spLKept := by
  refine F.ok scLKept (fun vs H Q E h => ?_) (fun cdv A outer s H vs Q E hr h => ?_)
  · obtain ⟨v, g, h, a, pl, rfl, _⟩ := h
    rfl
  · obtain ⟨v, g, h, a, pl, rfl, ig, wf, hgl, hpl, pk, hin, q⟩ := h
    obtain ⟨ga, vs, rfl, hga, hp⟩ := id ig
    have hlv := paired_len hp
    have hu := hu_of hr
    have hu64 := hr.units
    have hpll := pl_len pk.nd hin
    refine ⟨_, pss_cons (ps_set (i := 4) scLKept.nd rfl (Or.inr rfl) (pe_frz (pe_lc rfl lcLKept1 (pi_dict (pv 2)) (fun cl C ex s H => ⟨(pg_name (i := 0) lcLKept1.nd rfl (Or.inl rfl)), pif_nil, (pv 0)⟩))))
      (pss_cons (ps_set (i := 5) scLKept.nd rfl (Or.inl rfl) pe_bl)
      (pss_cons (ps_cut (ps_while PassesOwn.never (pt_val (pv 5)) (pss_cons (ps_set (i := 5) scLKept.nd rfl (Or.inl rfl) pe_bl)
        (pss_one (ps_for PassesOwn.never rfl (pi_list (pe_callTy call_list_of rfl T.list PyProof.Rows.boot_list (pa_cons (pv 4) pa_nil))) (pg_name (i := 3) scLKept.nd rfl (Or.inl rfl)) (pss_cons (ps_set (i := 6) scLKept.nd rfl (Or.inl rfl) (pe_callTy call_list_of rfl T.list PyProof.Rows.boot_list (pa_cons (pe_ix ix_tup (pe_ix ix_tup (pv 0) (pv 3) (fun _ _ => rfl)) pe_int (fun _ _ => rfl)) pa_nil)))
          (pss_cons (ps_cut (ps_if (pt_cmpR op_eq (pe_ix ix_tup (pe_ix ix_tup (pv 0) (pv 3) (fun _ _ => rfl)) pe_int (fun _ _ => rfl)) (pv 1) (nomark _)) (pss_one (ps_set (i := 6) scLKept.nd rfl (Or.inl rfl) (pe_lst (pa_cons (pe_dget hu (pv 2) (pv 3) (fun _ _ => rfl)) pa_nil)))) pss_nil))
          (pss_cons (ps_setlc (i := 7) rfl scLKept.nd rfl rfl lcLKept2 (pi_list (pv 6)) (fun cl C ex s H => ⟨(pg_name (i := 0) lcLKept2.nd rfl (Or.inl rfl)), (pif_one (pt_cmpR (notIn_seqK K rfl) (pv 0) (pv 1) (by rfl))), (pv 0)⟩))
          (pss_one (ps_if (PW.pt (pw_and (pt_cmpR (op_in_seq) (pv 3) (pv 4) (by rfl)) (pw_and1 (pt_cmpR (op_neD hu64) (pv 7) (pe_lst pa_nil) (nomark _))))) (pss_cons (ps_expr (pe_bm PySem.F.plainAttrs_list PySem.F.slot_list_remove PySem.F.type_list_remove mt_remove (pv 4) (pa_cons (pv 3) pa_nil)))
            (pss_one (ps_set (i := 5) scLKept.nd rfl (Or.inl rfl) pe_bl))) pss_nil))))))))))
      (pss_cons (ps_set (i := 8) scLKept.nd rfl (Or.inl rfl) pe_dnewK)
      (pss_cons (ps_for PassesOwn.never rfl (pi_list (pv 4)) (pg_name (i := 3) scLKept.nd rfl (Or.inl rfl)) (pss_one (ps_dput hu (pv 8) (pv 3) (pe_dget hu (pv 2) (pv 3) (fun _ _ => rfl)) (by rfl))))
      (pss_one (ps_ret (pv 8))))))), ?_⟩
    refine ⟨a, kvP pl, hpl, fun o => ?_⟩
    have tkf := tk_fz (o := o) hpl
    refine ⟨_, rfl, a, o, _, rfl, fz_at, fun D hD => lc_dict (fun i σ H2 => (∃ s0, σ = [s0]) ∧ Same (fz H a o (kvP pl)) H2 ∧ H2 D = some (.lst (((pl.map (·.1)).take i).map V.int))) ?_ ?_ ?_ ?_⟩
    · exact ⟨⟨none, rfl⟩, Same.upd hD, upd_same⟩
    · rintro i σ H2 _ ⟨_, sm, _⟩
      exact back_fz sm
    · rintro i kk vv σ H2 hi ⟨⟨s0, rfl⟩, sm, hD2⟩
      obtain ⟨j, ob, rfl, rfl, hj⟩ := kvP_get hi
      unfold gName
      refine iteT ?_
      refine ⟨_, rfl, _, hD2, ?_, ⟨_, rfl⟩, sm.upd' hD, ?_⟩
      · rw [List.length_map, sizeLine_eq]
        have := List.length_take_le' i (pl.map (·.1))
        rw [List.length_map] at this
        omega
      · rw [upd_same, List.take_add_one, List.getElem?_map, hj]
        simp
        rfl
    rintro σ H2 ⟨_, sm, hD2⟩
    rw [kvP_len, List.take_of_length_le (by simp)] at hD2
    refine ⟨back_fz sm, ?_⟩
    obtain ⟨nDa, hD0⟩ := fz_free hD
    have sm3 := same_back sm
    have hD3 : back H a H2 D = some (.lst ((pl.map (·.1)).map V.int)) := by rw [back_ne nDa]; exact hD2
    generalize back H a H2 = H3 at sm3 hD3
    -- while more
    refine ⟨fun σ' H' => ∃ (hs : List Int) (mo : Bool) (pv1 gv ou : Option V), σ' = [some (.ref ga), some (.int h), some (.ref a), pv1, some (.ref D), some (.bl mo), gv, ou, none] ∧ Same H H' ∧ H' D = some (.lst (hs.map V.int)) ∧ (∀ x ∈ hs, x ∈ pl.map (·.1)), ?_, ?_⟩
    · refine ⟨fun m σ H4 => ∃ (hs : List Int) (mo : Bool) (pv1 gv ou : Option V), σ = [some (.ref ga), some (.int h), some (.ref a), pv1, some (.ref D), some (.bl mo), gv, ou, none] ∧ Same H H4 ∧ H4 D = some (.lst (hs.map V.int)) ∧ (∀ x ∈ hs, x ∈ pl.map (·.1)) ∧ hs.length < 1000 ∧ m = if mo = true then hs.length + 1 else 0, ⟨_, pl.map (·.1), true, none, none, none, rfl, sm3, hD3, fun _ z => z, by rw [List.length_map]; omega, rfl⟩, ?_⟩
      rintro m σ H4 ⟨hs, mo, pv1, gv, ou, rfl, sm4, hD4, hsub, hsl, rfl⟩
      refine ⟨_, rfl, mo, rfl, ?_⟩
      cases mo with
      | false => exact iteF ⟨hs, false, pv1, gv, ou, rfl, sm4, hD4, hsub⟩
      | true =>
        refine iteT ?_
        refine ⟨fun σ' H' => ∃ (hs' : List Int) (mo : Bool) (pv1 gv ou : Option V), σ' = [some (.ref ga), some (.int h), some (.ref a), pv1, some (.ref D), some (.bl mo), gv, ou, none] ∧ Same H H' ∧ H' D = some (.lst (hs'.map V.int)) ∧ (∀ x ∈ hs', x ∈ pl.map (·.1)) ∧ hs'.length ≤ hs.length ∧ (mo = true → hs'.length < hs.length), ?_, ?_⟩
        · rintro σ' H' ⟨hs', mo, pv1, gv, ou, rfl, r1, r2, r3, r4, r5⟩
          refine ⟨if mo = true then hs'.length + 1 else 0, ?_, hs', mo, pv1, gv, ou, rfl, r1, r2, r3, by omega, rfl⟩
          rw [if_pos rfl]
          split
          · rename_i z; have := r5 z; omega
          · omega
        · refine ⟨_, rfl, D, _, rfl, .inl (SqL.of hD4), fun C hC => ?_⟩
          have nDC : D ≠ C := ne_of_none hD4 hC
          refine ⟨C, rfl, ⟨_, SqL.of upd_same⟩, for_list (xs := hs.map V.int) (fun i σ H5 => ∃ (hs' : List Int) (mo : Bool) (pv1 gv ou : Option V), σ = [some (.ref ga), some (.int h), some (.ref a), pv1, some (.ref D), some (.bl mo), gv, ou, none] ∧ Same H H5 ∧ H5 D = some (.lst (hs'.map V.int)) ∧ H5 C = some (.lst (hs.map V.int)) ∧ (∀ x ∈ hs', x ∈ pl.map (·.1)) ∧ hs'.length ≤ hs.length ∧ (mo = true → hs'.length < hs.length)) ?_ ?_ ?_ ?_⟩
          · exact ⟨hs, false, pv1, gv, ou, rfl, sm4.upd' (sm4.free hC), by rw [upd_ne nDC]; exact hD4, upd_same, hsub, Nat.le_refl _, fun z => by cases z⟩
          · rintro i σ H5 _ ⟨_, _, _, _, _, _, _, _, hC5, _⟩
            exact SqL.of hC5
          · rintro i x σ H5 hi ⟨hs', mo, pv2, gv2, ou2, rfl, sm5, hD5, hC5, hsub5, hle5, hmo5⟩
            obtain ⟨z, rfl, hzi, hz⟩ := geti hi
            have hzk := hsub z hz
            obtain ⟨kv, hkv, ekv⟩ := List.mem_map.mp hzk
            obtain ⟨z0, z1⟩ := hin kv hkv
            rw [ekv] at z0 z1
            have hk : g[z.toNat]? = some (g[z.toNat]'(by omega)) := List.getElem?_eq_getElem (by omega)
            generalize hpe : g[z.toNat]'(by omega) = p at hk
            have wfp := wf p (List.mem_of_getElem? hk)
            have hwl := wf_len wfp
            have hlook : look pl z = some kv.2 := look_of pk.nd (by rw [← ekv]; exact hkv)
            obtain ⟨hga2, pa, pb, hat, ha, hb⟩ := gm_at hga hp sm5.tk z0 hk
            unfold gName
            refine ⟨_, rfl, _, rfl, ga, vs, _, _, rfl, rfl, SqT.of hga2, hat, pa, _, _, _, rfl, rfl, SqT.of ha, rfl, pb, _, rfl, .inr (SqT.of hb), fun L1 hL1 => ?_⟩
            have sm6 : Same H5 (upd H5 L1 (.lst (p.2.2.map V.int))) := Same.upd hL1
            generalize hH6 : upd H5 L1 (.lst (p.2.2.map V.int)) = H6 at sm6
            have hL6 : H6 L1 = some (.lst (p.2.2.map V.int)) := by rw [← hH6]; exact upd_same
            have sm56 : Same H H6 := sm5.trans sm6
            -- goes
            refine ⟨fun σ' H' => ∃ (gl : Addr) (gs : List Int), σ' = [some (.ref ga), some (.int h), some (.ref a), some (.int z), some (.ref D), some (.bl mo), some (.ref gl), ou2, none] ∧ Same H6 H' ∧ H' gl = some (.lst (gs.map V.int)) ∧ gs.length < 1001, ?_, ?_⟩
            · refine ⟨_, rfl, _, rfl, ga, vs, _, _, rfl, rfl, SqT.of (sm6 ga _ hga2), hat, pa, _, _, _, rfl, rfl, SqT.of (sm6 pa _ ha), rfl, _, rfl, rfl, _, rfl, ?_⟩
              refine ite2 (fun hh => ?_) (fun hh => ?_)
              · have he : p.1 = h := V.int.inj (of_decide_eq_true hh)
                obtain ⟨y, hy⟩ := pk.val kv.1 kv.2 hkv p (by rw [ekv]; exact z0) (by rw [ekv]; exact hk) he
                have hget := look_dget (sm56.rd hpl) z
                rw [hlook, hy] at hget
                refine ⟨_, rfl, _, rfl, a, _, rfl, hget, by show 1 ≤ sizeLine; decide, fun L2 hL2 => ?_⟩
                exact ⟨L2, [y], rfl, Same.upd hL2, upd_same, by simp⟩
              · exact ⟨L1, p.2.2, rfl, Same.refl _, hL6, by omega⟩
            · rintro σ7 H7 ⟨gl, gs, rfl, sm7, hgl7, hgsl⟩
              have hD7 := sm7 D _ (sm6 D _ hD5)
              have hC7 := sm7 C _ (sm6 C _ hC5)
              have smH7 : Same H H7 := sm56.trans sm7
              -- out
              refine ⟨_, rfl, gl, rfl, ⟨_, SqL.of hgl7⟩, fun O hO => lc_list (xs := gs.map V.int) (fun i σ H8 => (∃ s0, σ = [s0, some (.ref D)]) ∧ Same H7 H8 ∧ H8 O = some (.lst (((gs.take i).filter fun w => !decide (w ∈ hs')).map V.int))) ?_ ?_ ?_ ?_⟩
              · exact ⟨⟨none, rfl⟩, Same.upd hO, upd_same⟩
              · rintro i σ H8 _ ⟨_, sm8, _⟩
                exact SqL.of (sm8 gl _ hgl7)
              · rintro i x σ H8 hi ⟨⟨s0, rfl⟩, sm8, hO8⟩
                obtain ⟨y, rfl, hyi, hy⟩ := geti hi
                refine ⟨_, rfl, _, rfl, D, _, rfl, .inl (SqL.of (sm8 D _ hD7)), rfl, flatints _, _, rfl, ?_⟩
                rw [show (if true = true then !inV (V.int y) (hs'.map V.int) else inV (V.int y) (hs'.map V.int)) = !decide (y ∈ hs') from by rw [if_pos rfl, inVints]]
                refine ite2 (fun hn => ?_) (fun hn => ?_)
                · refine ⟨_, rfl, _, hO8, ?_, ⟨_, rfl⟩, sm8.upd' hO, ?_⟩
                  · rw [List.length_map, sizeLine_eq]
                    have l1 := List.length_filter_le (fun w => !decide (w ∈ hs')) (gs.take i)
                    have l2 := List.length_take_le' i gs
                    omega
                  · rw [upd_same, take_filter_ext hyi, if_pos hn]
                    simp
                · refine ⟨⟨_, rfl⟩, sm8, ?_⟩
                  rw [take_filter_ext hyi, if_neg hn]
                  simpa using hO8
              · rintro σ H8 ⟨_, sm8, hO8⟩
                rw [List.length_map, List.take_length] at hO8
                have hD8 := sm8 D _ hD7
                have hC8 := sm8 C _ hC7
                have smH8 : Same H H8 := smH7.trans sm8
                refine ⟨_, rfl, _, rfl, D, _, rfl, .inl (SqL.of hD8), rfl, flatints _, _, rfl, ?_⟩
                rw [show (if false = true then !inV (V.int z) (hs'.map V.int) else inV (V.int z) (hs'.map V.int)) = decide (z ∈ hs') from inVints _ _]
                refine ite2 (fun hzin => ?_) (fun hzin => ?_)
                · have hzin' : z ∈ hs' := of_decide_eq_true hzin
                  refine ⟨_, rfl, Nat.zero_le _, fun E2 hE2 => ?_⟩
                  have smE : Same H8 (upd H8 E2 (.lst [])) := Same.upd hE2
                  refine ⟨_, _, rdlist (smE O _ hO8), .lst upd_same .nil, shapedints _, by decide, ?_⟩
                  rw [neList]
                  refine ⟨_, rfl, ?_⟩
                  generalize hH9 : upd H8 E2 (.lst []) = H9 at smE
                  have hD9 := smE D _ hD8
                  have hC9 := smE C _ hC8
                  have smH9 : Same H H9 := smH8.trans smE
                  refine ite2 (fun hn => ?_) (fun hn => ?_)
                  · refine ⟨_, rfl, .inl ⟨rfl, _, SqL.of hD9⟩, _, rfl, D, _, _, rfl, rfl, hD9, hzin', ?_⟩
                    have nCD : C ≠ D := Ne.symm nDC
                    have hel := List.length_erase_of_mem hzin'
                    have hpos := List.length_pos_of_mem hzin'
                    exact ⟨hs'.erase z, true, _, _, _, rfl, smH9.upd' hD0, upd_same, by rw [upd_ne nCD]; exact hC9, fun x hx => hsub5 x (List.mem_of_mem_erase hx), by omega, fun _ => by omega⟩
                  · exact ⟨hs', mo, _, _, _, rfl, smH9, hD9, hC9, hsub5, hle5, hmo5⟩
                · exact iteF ⟨hs', mo, _, _, _, rfl, smH8, hD8, hC8, hsub5, hle5, hmo5⟩
          · rintro σ H5 ⟨hs', mo, pv2, gv2, ou2, rfl, sm5, hD5, hC5, hsub5, hle5, hmo5⟩
            exact ⟨hs', mo, pv2, gv2, ou2, rfl, sm5, hD5, hsub5, hle5, hmo5⟩
    · rintro σ4 H4 ⟨hs, mo, pv1, gv, ou, rfl, sm4, hD4, hsub⟩
      refine fun B hB => ?_
      have nDB : D ≠ B := ne_of_none hD4 hB
      have hB0 := sm4.free hB
      refine ⟨_, rfl, D, rfl, ⟨_, SqL.of (by rw [upd_ne nDB]; exact hD4)⟩, for_list (xs := hs.map V.int) (fun i σ H5 => ∃ (pv1 : Option V) (pl' : Plan), σ = [some (.ref ga), some (.int h), some (.ref a), pv1, some (.ref D), some (.bl mo), gv, ou, some (.ref B)] ∧ Same H4 H5 ∧ H5 B = some (.dK (kvP pl')) ∧ (pl'.map (·.1)).Nodup ∧ ∀ kv ∈ pl', kv ∈ pl) ?_ ?_ ?_ ?_⟩
      · exact ⟨pv1, [], rfl, Same.upd hB, upd_same, List.nodup_nil, fun kv hm => by cases hm⟩
      · rintro i σ H5 _ ⟨_, _, _, sm5, _⟩
        exact SqL.of (sm5 D _ hD4)
      · rintro i x σ H5 hi ⟨pv2, pl', rfl, sm5, hB5, nd5, sub5⟩
        obtain ⟨z, rfl, hzi, hz⟩ := geti hi
        obtain ⟨kv, hkv, ekv⟩ := List.mem_map.mp (hsub z hz)
        have hlook : look pl z = some kv.2 := look_of pk.nd (by rw [← ekv]; exact hkv)
        have hget := look_dget ((sm4.trans sm5).rd hpl) z
        rw [hlook] at hget
        have l5 := pl_len nd5 (fun kv hm => hin kv (sub5 kv hm))
        refine ⟨_, rfl, _, rfl, a, _, rfl, hget, _, rfl, _, rfl, B, _, rfl, dput hB5 (by omega) z kv.2, ?_⟩
        refine ⟨_, putP pl' z kv.2, rfl, sm5.upd' hB, upd_same, nd_putP nd5 z kv.2, fun q hq => ?_⟩
        rcases mem_putP hq with y | y
        · rw [y, ← ekv]; exact hkv
        · exact sub5 q y.1
      · rintro σ H5 ⟨pv2, pl', rfl, sm5, hB5, nd5, sub5⟩
        exact ⟨_, rfl, q B pl' H5 hB0 hB5 (sm4.trans sm5) (pk.sub nd5 sub5) sub5⟩
end
end K08

namespace K08
open PySem L2 Gm
abbrev nGoes : List Str := ["game", "hand", "plan", "place"]
theorem scGoes : FnScope nGoes ["game", "hand", "plan", "place"] (defScope sGoes) := ⟨rfl, rfl, rfl, by decide +kernel, rfl, by decide +kernel, by decide +kernel⟩
abbrev nLost : List Str := ["game", "hand", "plan", "start", "crown", "seen", "left", "place"]
theorem scLost : FnScope nLost ["game", "hand", "plan"] (defScope sLost) := ⟨rfl, rfl, rfl, by decide +kernel, rfl, by decide +kernel, by decide +kernel⟩
def spGoes : Sp := fun vs H Q _ => ∃ (v : V) (g : List Pl) (h : Int) (a : Addr) (pl : Plan) (k : Int) (p : Pl), vs = [v, .int h, .ref a, .int k] ∧ IsGm H v g ∧ Rd H a (.dK (kvP pl)) ∧ 0 ≤ k ∧ g[k.toNat]? = some p ∧ (p.1 = h → ∃ i, look pl k = some (some i)) ∧
  ∀ (t : Addr) (H' : Hp), H t = none → H' t = some (.lst ((nxt g h pl k).map V.int)) → Same H H' → Q (.ref t) H'
def spLost : Sp := fun vs H Q _ => ∃ (v : V) (g : List Pl) (h : Int) (a : Addr) (pl : Plan), vs = [v, .int h, .ref a] ∧ IsGm H v g ∧ (∀ p ∈ g, p.2.2.length ≤ 1000) ∧ Rd H a (.dK (kvP pl)) ∧ pl.length < 1000 ∧ PlOk g h pl ∧ keepsB g h pl = true ∧
  ∀ (H' : Hp), Same H H' → Q (.bl (lostB g h pl)) H'
section
variable {P : Program} {w : World} {K : PySem.W.Frag} {mg : Str → Option Value} {base : Heap}
theorem ok_goes {f  : Addr} {fd  : FuncData} (F : Fun K "_law_goes" "_law_goes" sGoes f fd) (T : Txt mg) :
    FnOk P w K mg base CX0 1 f fd ["game", "hand", "plan", "place"] spGoes := by
  refine F.ok scGoes (fun vs H Q E h => ?_) (fun cdv A outer s H vs Q E hr h => ?_)
  · obtain ⟨v, g, h, a, pl, k, p, rfl, _⟩ := h
    rfl
  · obtain ⟨v, g, h, a, pl, k, p, rfl, ig, hpl, h0, hk, hv, q⟩ := h
    obtain ⟨ga, vs, rfl, hga, hp⟩ := id ig
    obtain ⟨_, pa, pb, hat, ha, hb⟩ := gm_at hga hp (fun _ _ z => z) h0 hk
    have hu := hu_of hr
    refine ⟨_, pss_cons (ps_if (pt_cmpR op_eq (pe_ix ix_tup (pe_ix ix_tup (pv 0) (pv 3) (fun _ _ => rfl)) pe_int (fun _ _ => rfl)) (pv 1) (nomark _)) (pss_one (ps_ret (pe_lst (pa_cons (pe_dget hu (pv 2) (pv 3) (fun _ _ => rfl)) pa_nil)))) pss_nil)
      (pss_one (ps_ret (pe_callTy call_list_of rfl T.list PyProof.Rows.boot_list (pa_cons (pe_ix ix_tup (pe_ix ix_tup (pv 0) (pv 3) (fun _ _ => rfl)) pe_int (fun _ _ => rfl)) pa_nil)))), ?_⟩
    refine ⟨_, rfl, _, rfl, ga, vs, _, _, rfl, rfl, SqT.of hga, hat, pa, _, _, _, rfl, rfl, SqT.of ha, rfl, _, rfl, rfl, _, rfl, ?_⟩
    refine ite2 (fun hh => ?_) (fun hh => ?_)
    · have he : p.1 = h := V.int.inj (of_decide_eq_true hh)
      obtain ⟨i, hi⟩ := hv he
      have hget := look_dget hpl k
      rw [hi] at hget
      refine ⟨_, rfl, _, rfl, a, _, rfl, hget, by show 1 ≤ sizeLine; decide, fun t ht => ?_⟩
      refine q t _ ht ?_ (Same.upd ht)
      rw [upd_same, nxt_own hk he hi]
      rfl
    · have he : ¬ p.1 = h := fun z => hh (decide_eq_true (by rw [z]))
      refine ⟨_, rfl, _, rfl, ga, vs, _, _, rfl, rfl, SqT.of hga, hat, pa, _, _, _, rfl, rfl, SqT.of ha, rfl, pb, _, rfl, .inr (SqT.of hb), fun t ht => ?_⟩
      refine q t _ ht ?_ (Same.upd ht)
      rw [upd_same, nxt_other hk he]
theorem ok_lost {f f1 : Addr} {fd fd1 : FuncData} (F : Fun K "_law_lost_round" "_law_lost_round" sLost f fd) (T : Txt mg)
    (G1 : FnOk P w K mg base CX0 1 f1 fd1 ["game", "hand", "plan", "place"] spGoes) (k1 : PySem.W.keepIn K (.ref f1) = true) (m1 : mg "_law_goes" = some (.ref f1)) (b1 : Binds K fd1 ["game", "hand", "plan", "place"] []) :
    FnOk P w K mg base CX0 2 f fd ["game", "hand", "plan"] spLost := by
  refine F.ok scLost (fun vs H Q E h => ?_) (fun cdv A outer s H vs Q E hr h => ?_)
  · obtain ⟨v, g, h, a, pl, rfl, _⟩ := h
    rfl
  · obtain ⟨v, g, h, a, pl, rfl, ig, hgw, hpl, hpll, pk, kb, q⟩ := h
    obtain ⟨ga, vs, rfl, hga, hp⟩ := id ig
    have hu := hu_of hr
    have hu64 := hr.units
    have at' : ∀ k ∈ pl.map (·.1), ∃ p, 0 ≤ k ∧ g[k.toNat]? = some p ∧ (p.1 = h → ∃ i, look pl k = some (some i)) := fun k hk => by
      obtain ⟨h0, h1, _⟩ := keeps_in kb hk
      have hgk : g[k.toNat]? = some (g[k.toNat]'(by omega)) := List.getElem?_eq_getElem (by omega)
      exact ⟨_, h0, hgk, fun e => pk.own hk h0 hgk e⟩
    have hnl := nxt_len (h := h) (pl := pl) hgw (by omega)
    refine ⟨_, pss_cons (ps_frz (ps_for PassesOwn.never rfl (pi_dict (pv 2)) (pg_name (i := 3) scLost.nd rfl (Or.inl rfl)) (pss_cons (ps_set (i := 4) scLost.nd rfl (Or.inl rfl) (pe_ix ix_tup (pe_ix ix_tup (pv 0) (pv 3) (fun _ _ => rfl)) pe_int (fun _ _ => rfl)))
        (pss_one (ps_if (pt_cmpR op_ne (pe_op op_mod (pv 4) pe_int) (pv 1) (nomark _)) (pss_cons (ps_set (i := 5) scLost.nd rfl (Or.inl rfl) (pe_lst pa_nil))
          (pss_cons (ps_set (i := 6) scLost.nd rfl (Or.inl rfl) (pe_call G1 (hr.mono (by decide)) rfl m1 k1 b1 .nil pass0 (pa_cons (pv 0) (pa_cons (pv 1) (pa_cons (pv 2) (pa_cons (pv 3) pa_nil))))))
          (pss_one (ps_while PassesOwn.never (pt_cmpR (op_neD hu64) (pv 6) (pe_lst pa_nil) (nomark _)) (pss_cons (ps_set (i := 7) scLost.nd rfl (Or.inl rfl) (pe_bm0 PySem.F.plainAttrs_list PySem.F.slot_list_pop PySem.F.type_list_pop mt_pop (pv 6)))
            (pss_cons (ps_if (pt_cmpR op_eq (pv 7) (pv 3) (nomark _)) (pss_one (ps_ret pe_bl)) pss_nil)
            (pss_one (ps_if (PW.pt (pw_and (pt_cmpR (op_notIn_seq) (pv 7) (pv 5) (by rfl)) (pw_and1 (pt_cmpR op_le (pe_ix ix_tup (pe_ix ix_tup (pv 0) (pv 7) (fun _ _ => rfl)) pe_int (fun _ _ => rfl)) (pv 4) (nomark _))))) (pss_cons (ps_expr (pe_bm PySem.F.plainAttrs_list PySem.F.slot_list_append PySem.F.type_list_append mt_append (pv 5) (pa_cons (pv 7) pa_nil)))
              (pss_one (ps_set (i := 6) scLost.nd rfl (Or.inl rfl) (pe_op op_cat (pv 6) (pe_call G1 (hr.mono (by decide)) rfl m1 k1 b1 .nil pass0 (pa_cons (pv 0) (pa_cons (pv 1) (pa_cons (pv 2) (pa_cons (pv 7) pa_nil))))))))) pss_nil)))))))) pss_nil)))))
      (pss_one (ps_ret pe_bl)), ?_⟩
    refine ⟨a, kvP pl, hpl, fun o => ?_⟩
    have tkf := tk_fz (o := o) hpl
    refine ⟨_, rfl, a, o, _, rfl, fz_at, for_dict (fun i σ H2 => (∃ (s3 s4 s5 s6 s7 : Option V), σ = [some (.ref ga), some (.int h), some (.ref a), s3, s4, s5, s6, s7]) ∧ Same (fz H a o (kvP pl)) H2 ∧ ((pl.take i).any fun kv => decide (crw g kv.1 % 2 ≠ h) && backB (nxt g h pl) (crw g) kv.1) = false) ?_ ?_ ?_ ?_⟩
    · exact ⟨⟨none, none, none, none, none, rfl⟩, Same.refl _, rfl⟩
    · rintro i σ H2 _ ⟨_, sm, _⟩
      exact back_fz sm
    · rintro i kk vv σ H2 hi ⟨⟨s3, s4, s5, s6, s7, rfl⟩, sm, hall⟩
      obtain ⟨s, ob, rfl, rfl, hj⟩ := kvP_get hi
      have hmem : (s, ob) ∈ pl := List.mem_of_getElem? hj
      have hs : s ∈ pl.map (·.1) := List.mem_map.mpr ⟨_, hmem, rfl⟩
      obtain ⟨p, h0, hk, hv⟩ := at' s hs
      have hcs : crw g s = p.2.1 := crw_of hk
      have tk2 : TK H H2 := fun b xs e => sm b _ (tkf b xs e)
      obtain ⟨hga2, pa, pb, hat, ha, hb⟩ := gm_at hga hp tk2 h0 hk
      have good : ∀ (H3 : Hp) (s4 s5 s6 s7 : Option V), (decide (crw g s % 2 ≠ h) && backB (nxt g h pl) (crw g) s) = false → Same (fz H a o (kvP pl)) H3 → (∃ (s3' s4' s5' s6' s7' : Option V), [some (V.ref ga), some (V.int h), some (V.ref a), some (V.int s), s4, s5, s6, s7] = [some (.ref ga), some (.int h), some (.ref a), s3', s4', s5', s6', s7']) ∧ Same (fz H a o (kvP pl)) H3 ∧ ((pl.take (i + 1)).any fun kv => decide (crw g kv.1 % 2 ≠ h) && backB (nxt g h pl) (crw g) kv.1) = false := fun H3 s4 s5 s6 s7 hf sm3 => by
        refine ⟨⟨_, _, _, _, _, rfl⟩, sm3, ?_⟩
        rw [List.take_add_one, hj, List.any_append, hall]
        simpa using hf
      unfold gName
      refine ⟨_, rfl, _, rfl, ga, vs, _, _, rfl, rfl, SqT.of hga2, hat, pa, _, _, _, rfl, rfl, SqT.of ha, rfl, ?_⟩
      refine ⟨_, rfl, _, _, rfl, rfl, (by show (0 : Int) < 2; decide), _, rfl, rfl, _, rfl, ?_⟩
      rw [neV, ← hcs]
      refine ite2 (fun hn => ?_) (fun hn => ?_)
      · refine ⟨Nat.zero_le _, fun S hS => ?_⟩
        have sm3 : Same H2 (upd H2 S (.lst [])) := Same.upd hS
        have hS3 : upd H2 S (.lst []) S = some (.lst (([] : List Int).map V.int)) := upd_same
        generalize upd H2 S (.lst []) = H3 at sm3 hS3
        have tk3 : TK H H3 := fun b xs e => sm3 b _ (tk2 b xs e)
        refine ⟨_, rfl, _, rfl, _, rfl, _, rfl, .ref ga, g, h, a, pl, s, p, rfl, ig.tk tk3, .inr ⟨o, sm3 a _ (back_fz sm)⟩, h0, hk, hv, fun L H4 hL hL4 sm4 => ?_⟩
        have smf4 : Same (fz H a o (kvP pl)) H4 := (sm.trans sm3).trans sm4
        have hS4 := sm4 S _ hS3
        have hSf : fz H a o (kvP pl) S = none := sm.free hS
        refine ⟨fun m σ H5 => ∃ (ms cs : List Int) (L : Addr) (nv : Option V), σ = [some (.ref ga), some (.int h), some (.ref a), some (.int s), some (.int (crw g s)), some (.ref S), some (.ref L), nv] ∧ Same (fz H a o (kvP pl)) H5 ∧ H5 S = some (.lst (ms.map V.int)) ∧ H5 L = some (.lst (cs.map V.int)) ∧ L ≠ S ∧ fz H a o (kvP pl) L = none ∧ Dfs (nxt g h pl) (crw g) (crw g s) s ms cs ∧ s ∉ ms ∧ cs.length ≤ 1000 * (ms.length + 1) ∧ m = 1001 * (pl.length - ms.length) + cs.length, ⟨_, [], nxt g h pl s, L, _, by rw [hcs]; rfl, smf4, hS4, hL4, fun z => (by rw [z] at hL; rw [hL] at hS3; cases hS3), (sm.trans sm3).free hL, Dfs.init, by simp, by have := hnl s; simpa using this, rfl⟩, ?_⟩
        rintro m σ H5 ⟨ms, cs, L, nv, rfl, sm5, hS5, hL5, hLS, hLf, d, hsm, hcl, rfl⟩
        have hmsub : ∀ x ∈ ms, x ∈ pl.map (·.1) := fun x hx => rch_in kb hs (d.b x hx).1
        have hmsl := sub_len d.nd hmsub
        refine ⟨_, rfl, Nat.zero_le _, fun E2 hE2 => ?_⟩
        have smE : Same H5 (upd H5 E2 (.lst [])) := Same.upd hE2
        refine ⟨_, _, rdlist (smE L _ hL5), .lst upd_same .nil, shapedints _, by decide, ?_⟩
        rw [neList]
        refine ⟨_, rfl, ?_⟩
        have hS6 := smE S _ hS5
        have hL6 := smE L _ hL5
        have sm6 : Same (fz H a o (kvP pl)) (upd H5 E2 (.lst [])) := sm5.trans smE
        generalize upd H5 E2 (.lst []) = H6 at smE hS6 hL6 sm6
        refine ite2 (fun hne => ?_) (fun hne => ?_)
        · have hne' : cs ≠ [] := fun z => by rw [decide_eq_true z] at hne; cases hne
          have hpos' : 0 < cs.length := List.length_pos_iff.mpr hne'
          obtain ⟨x, hx⟩ : ∃ x, cs[cs.length - 1]? = some x := ⟨_, List.getElem?_eq_getElem (by omega)⟩
          have hcs' := last_of hx
          have hcl' : cs.dropLast.length + 1 = cs.length := by rw [List.length_dropLast]; omega
          rw [hcs'] at d
          have hxr : Rch (nxt g h pl) (crw g) (crw g s) s x := d.a x (by simp)
          have hxin := rch_in kb hs hxr
          obtain ⟨px, hx0, hxk, hxv⟩ := at' x hxin
          refine ⟨fun σ' H' => ∃ m', m' < 1001 * (pl.length - ms.length) + cs.length ∧ ∃ (ms cs : List Int) (L : Addr) (nv : Option V), σ' = [some (.ref ga), some (.int h), some (.ref a), some (.int s), some (.int (crw g s)), some (.ref S), some (.ref L), nv] ∧ Same (fz H a o (kvP pl)) H' ∧ H' S = some (.lst (ms.map V.int)) ∧ H' L = some (.lst (cs.map V.int)) ∧ L ≠ S ∧ fz H a o (kvP pl) L = none ∧ Dfs (nxt g h pl) (crw g) (crw g s) s ms cs ∧ s ∉ ms ∧ cs.length ≤ 1000 * (ms.length + 1) ∧ m' = 1001 * (pl.length - ms.length) + cs.length, fun _ _ z => z, ?_⟩
          refine ⟨_, rfl, .inl ⟨rfl, _, SqL.of hL6⟩, L, _, _, rfl, rfl, hL6, (by rw [List.length_map, List.getElem?_map, hx]; rfl), ?_⟩
          have hS7 : upd H6 L (.lst (cs.map V.int).dropLast) S = some (.lst (ms.map V.int)) := by rw [upd_ne (Ne.symm hLS)]; exact hS6
          have hL7 : upd H6 L (.lst (cs.map V.int).dropLast) L = some (.lst (cs.dropLast.map V.int)) := by rw [upd_same, List.map_dropLast]
          have sm7 : Same (fz H a o (kvP pl)) (upd H6 L (.lst (cs.map V.int).dropLast)) := sm6.upd' hLf
          generalize upd H6 L (.lst (cs.map V.int).dropLast) = H7 at hS7 hL7 sm7
          have tk7 : TK H H7 := fun b xs e => sm7 b _ (tkf b xs e)
          -- place == start
          refine ⟨_, rfl, _, rfl, rfl, _, rfl, ?_⟩
          refine ite2 (fun hxs => ?_) (fun hxs => ?_)
          · have hxs' : x = s := V.int.inj (of_decide_eq_true hxs)
            subst hxs'
            refine ⟨back_fz sm7, ?_⟩
            have e : lostB g h pl = true := by
              unfold lostB
              rw [List.any_eq_true]
              exact ⟨_, hmem, by rw [hn, backB_iff.mpr hxr]; rfl⟩
            have := q _ (same_back sm7)
            rw [e] at this
            exact this
          · have hxs' : x ≠ s := fun z => hxs (decide_eq_true (by rw [z]))
            refine ⟨_, rfl, _, rfl, S, _, rfl, .inl (SqL.of hS7), rfl, flatints _, _, rfl, ?_⟩
            rw [show (if true = true then !inV (V.int x) (ms.map V.int) else inV (V.int x) (ms.map V.int)) = !decide (x ∈ ms) from by rw [if_pos rfl, inVints]]
            refine ite2 (fun hnm => ?_) (fun hnm => ?_)
            · have hxn : x ∉ ms := fun z => by rw [decide_eq_true z] at hnm; cases hnm
              obtain ⟨hga7, xa, xb, xat, xha, xhb⟩ := gm_at hga hp tk7 hx0 hxk
              refine ⟨_, rfl, _, rfl, ga, vs, _, _, rfl, rfl, SqT.of hga7, xat, xa, _, _, _, rfl, rfl, SqT.of xha, rfl, _, rfl, _, _, rfl, rfl, _, rfl, ?_⟩
              refine ite2 (fun hle => ?_) (fun hle => ?_)
              · have hle' : crw g x ≤ crw g s := by
                  rw [crw_of hxk]
                  exact of_decide_eq_true hle
                have d' := d.take hxn hle'
                have hmsl2 := sub_len d'.nd (fun y hy => rch_in kb hs (d'.b y hy).1)
                rw [List.length_append] at hmsl2
                simp only [List.length_singleton] at hmsl2
                refine ⟨_, rfl, .inl ⟨rfl, _, SqL.of hS7⟩, _, rfl, S, _, _, rfl, rfl, hS7, (by rw [List.length_map, sizeLine_eq]; omega), ?_⟩
                have hS8 : upd H7 S (.lst (ms.map V.int ++ [V.int x])) S = some (.lst ((ms ++ [x]).map V.int)) := by rw [upd_same]; simp
                have hL8 : upd H7 S (.lst (ms.map V.int ++ [V.int x])) L = some (.lst (cs.dropLast.map V.int)) := by rw [upd_ne hLS]; exact hL7
                have sm8 : Same (fz H a o (kvP pl)) (upd H7 S (.lst (ms.map V.int ++ [V.int x]))) := sm7.upd' hSf
                generalize upd H7 S (.lst (ms.map V.int ++ [V.int x])) = H8 at hS8 hL8 sm8
                have tk8 : TK H H8 := fun b xs e => sm8 b _ (tkf b xs e)
                refine ⟨_, rfl, _, rfl, _, rfl, _, rfl, _, rfl, .ref ga, g, h, a, pl, x, px, rfl, ig.tk tk8, .inr ⟨o, back_fz sm8⟩, hx0, hxk, hxv, fun t H9 ht0 ht sm9 => ?_⟩
                have hnx := hnl x
                have hL9 := sm9 L _ hL8
                refine ⟨L, t, _, _, rfl, rfl, hL9, ht, by rw [List.length_map, List.length_map, sizeLine_eq]; omega, fun L2 hL2 => ?_⟩
                have hS9 := sm9 S _ hS8
                have sm89 := sm8.trans sm9
                refine ⟨_, ?_, ms ++ [x], cs.dropLast ++ nxt g h pl x, L2, _, rfl, sm89.upd' (sm89.free hL2), by rw [upd_ne (ne_of_none hS9 hL2)]; exact hS9, by rw [upd_same]; simp, Ne.symm (ne_of_none hS9 hL2), sm89.free hL2, d', ?_, ?_, rfl⟩
                · rw [List.length_append, List.length_append]
                  simp only [List.length_singleton]
                  omega
                · intro z
                  rcases List.mem_append.mp z with z | z
                  · exact hsm z
                  · exact hxs' (List.mem_singleton.mp z).symm
                · rw [List.length_append, List.length_append]
                  simp only [List.length_singleton]
                  omega
              · have d' := d.skip (.inr (by
                  rw [crw_of hxk]
                  rcases Int.lt_or_le (crw g s) px.2.1 with z | z
                  · exact z
                  · exact absurd (decide_eq_true z) hle))
                exact ⟨_, by omega, ms, cs.dropLast, L, _, rfl, sm7, hS7, hL7, hLS, hLf, d', hsm, by omega, rfl⟩
            · have hxn : x ∈ ms := by
                by_cases z : x ∈ ms
                · exact z
                · exact absurd (by rw [decide_eq_false z]; rfl) hnm
              have d' := d.skip (.inl hxn)
              exact iteF ⟨_, by omega, ms, cs.dropLast, L, _, rfl, sm7, hS7, hL7, hLS, hLf, d', hsm, by omega, rfl⟩
        · have hcs0 : cs = [] := by
            by_cases z : cs = []
            · exact z
            · exact absurd (by rw [decide_eq_false z]; rfl) hne
          subst hcs0
          refine good H6 _ _ _ _ ?_ sm6
          rw [← d.back, decide_eq_false hsm]
          simp
      · refine good H2 _ _ _ _ ?_ sm
        rw [show decide (crw g s % 2 ≠ h) = false by simpa using hn]
        rfl
    · rintro σ H2 ⟨⟨s3, s4, s5, s6, s7, rfl⟩, sm, hall⟩
      rw [kvP_len, List.take_length] at hall
      refine ⟨back_fz sm, ?_⟩
      have := q _ (same_back sm)
      rw [show lostB g h pl = false from hall] at this
      exact this
end
end K08

namespace K08
open PySem L2 Gm Zk
abbrev nLFeared : List Str := ["game", "hand", "found", "place"]
theorem scLFeared : FnScope nLFeared ["game", "hand"] (defScope sLFeared) := ⟨rfl, rfl, rfl, by decide +kernel, rfl, by decide +kernel, by decide +kernel⟩
def spLFeared : Sp := fun vs H Q _ => ∃ (v : V) (g : List Pl) (h : Int), vs = [v, .int h] ∧ IsGm H v g ∧ g.length < 60 ∧
  ∀ (l : Addr) (ns : List Int) (H' : Hp), H l = none → H' l = some (.lst (ns.map V.int)) → Frd g h ns → Same H H' → Q (.ref l) H'
section
variable {P : Program} {w : World} {K : PySem.W.Frag} {mg : Str → Option Value} {base : Heap}
theorem ok_lfeared {f  : Addr} {fd  : FuncData} (F : Fun K "_law_feared" "_law_feared" sLFeared f fd) (T : Txt mg) :
    FnOk P w K mg base CX0 1 f fd ["game", "hand"] spLFeared := by
  refine F.ok scLFeared (fun vs H Q E h => ?_) (fun cdv A outer s H vs Q E hr h => ?_)
  · obtain ⟨v, g, h, rfl, _⟩ := h
    rfl
  · obtain ⟨v, g, h, rfl, ig, hgl, q⟩ := h
    obtain ⟨ga, vs, rfl, hga, hp⟩ := id ig
    have hlv := paired_len hp
    refine ⟨_, pss_cons (ps_set (i := 2) scLFeared.nd rfl (Or.inl rfl) (pe_lst pa_nil))
      (pss_cons (ps_for PassesOwn.never rfl (pi_tup (pv 0)) (pg_name (i := 3) scLFeared.nd rfl (Or.inl rfl)) (pss_one (ps_if (PW.pt (pw_and (pt_cmpR op_ne (pe_op op_mod (pe_ix ix_tup (pv 3) pe_int (fun _ _ => rfl)) pe_int) (pv 1) (nomark _)) (pw_and1 (pt_cmpR (op_notIn_seq) (pe_ix ix_tup (pv 3) pe_int (fun _ _ => rfl)) (pv 2) (by rfl))))) (pss_one (ps_expr (pe_bm PySem.F.plainAttrs_list PySem.F.slot_list_append PySem.F.type_list_append mt_append (pv 2) (pa_cons (pe_ix ix_tup (pv 3) pe_int (fun _ _ => rfl)) pa_nil)))) pss_nil)))
      (pss_one (ps_ret (pe_callB call_sortedL rfl T.sorted PyProof.Rows.boot_sorted (pa_cons (pv 2) pa_nil))))), ?_⟩
    refine ⟨Nat.zero_le _, fun D hD => ?_⟩
    refine ⟨_, rfl, ga, rfl, ⟨_, SqT.of (by rw [upd_ne (ne_of_none hga hD)]; exact hga)⟩, for_tup (xs := vs) (fun i σ H2 => ∃ (pv1 : Option V) (fs : List Int), σ = [some (.ref ga), some (.int h), some (.ref D), pv1] ∧ Same H H2 ∧ H2 D = some (.lst (fs.map V.int)) ∧ fs.Nodup ∧ fs.length ≤ i ∧ ∀ c, c ∈ fs ↔ FrdIn (g.take i) h c) ?_ ?_ ?_ ?_⟩
    · exact ⟨none, [], rfl, Same.upd hD, upd_same, List.nodup_nil, Nat.le_refl _, fun c => ⟨fun z => (by cases z), fun ⟨p, hp, _⟩ => (by simp at hp)⟩⟩
    · rintro i σ H2 _ ⟨_, _, _, sm, _⟩
      exact SqT.of (sm ga _ hga)
    · rintro i x σ H2 hi ⟨pv1, fs, rfl, sm, hD2, nd, hfl, hfs⟩
      obtain ⟨p, hpi, ip⟩ := paired_get hp hi
      obtain ⟨pa, pb, rfl, ha, hb⟩ := ip.tk sm.tk
      have hi' := get_lt hpi
      have tk1 : ∀ c, FrdIn (g.take (i + 1)) h c ↔ FrdIn (g.take i) h c ∨ (p.2.1 = c ∧ c % 2 ≠ h) := fun c => by
        unfold FrdIn
        rw [List.take_add_one, hpi]
        constructor
        · rintro ⟨y, hy, e⟩
          rcases List.mem_append.mp hy with z | z
          · exact .inl ⟨y, z, e⟩
          · have : y = p := by simpa using z
            subst this
            exact .inr e
        · rintro (⟨y, hy, e⟩ | e)
          · exact ⟨y, List.mem_append_left _ hy, e⟩
          · exact ⟨p, List.mem_append_right _ (by simp), e⟩
      have no : (∀ c, (p.2.1 = c ∧ c % 2 ≠ h) → c ∈ fs) → ∃ (pv1 : Option V) (fs : List Int), [some (V.ref ga), some (V.int h), some (V.ref D), some (V.ref pa)] = [some (.ref ga), some (.int h), some (.ref D), pv1] ∧ Same H H2 ∧ H2 D = some (.lst (fs.map V.int)) ∧ fs.Nodup ∧ fs.length ≤ i + 1 ∧ ∀ c, c ∈ fs ↔ FrdIn (g.take (i + 1)) h c := fun hn => by
        refine ⟨_, fs, rfl, sm, hD2, nd, by omega, fun c => ?_⟩
        rw [tk1, hfs]
        constructor
        · exact .inl
        · rintro (z | z)
          · exact z
          · exact (hfs c).mp (hn c z)
      unfold gName
      refine ⟨_, rfl, pa, _, _, _, rfl, rfl, SqT.of ha, rfl, _, _, rfl, rfl, (by show (0 : Int) < 2; decide), _, rfl, rfl, _, rfl, ?_⟩
      rw [neV]
      refine ite2 (fun hn => ?_) (fun hn => ?_)
      · have hn' : p.2.1 % 2 ≠ h := of_decide_eq_true hn
        refine ⟨_, rfl, pa, _, _, _, rfl, rfl, SqT.of ha, rfl, _, rfl, D, _, rfl, .inl (SqL.of hD2), rfl, flatints _, _, rfl, ?_⟩
        rw [nin_list]
        refine ite2 (fun hm => ?_) (fun hm => ?_)
        · have hm' : p.2.1 ∉ fs := fun z => by rw [decide_eq_true z] at hm; cases hm
          refine ⟨_, rfl, .inl ⟨rfl, _, SqL.of hD2⟩, _, rfl, pa, _, _, _, rfl, rfl, SqT.of ha, rfl, D, _, _, rfl, rfl, hD2, (by rw [List.length_map, sizeLine_eq]; omega), ?_⟩
          refine ⟨_, fs ++ [p.2.1], rfl, sm.upd' hD, by rw [upd_same]; simp, ?_, by rw [List.length_append]; simp; omega, fun c => ?_⟩
          · rw [List.nodup_append]
            refine ⟨nd, by simp, fun a ha b hb e => ?_⟩
            rw [List.mem_singleton] at hb
            subst hb e
            exact hm' ha
          · rw [tk1, List.mem_append, hfs, List.mem_singleton]
            constructor
            · rintro (z | z)
              · exact .inl z
              · exact .inr ⟨z.symm, by rw [z]; exact hn'⟩
            · rintro (z | z)
              · exact .inl z
              · exact .inr z.1.symm
        · refine no fun c z => ?_
          have : p.2.1 ∈ fs := by
            by_cases y : p.2.1 ∈ fs
            · exact y
            · exact absurd (by rw [decide_eq_false y]; rfl) hm
          rw [← z.1]; exact this
      · exact iteF (no fun c z => absurd (decide_eq_true (by rw [z.1]; exact z.2)) hn)
    · rintro σ H2 ⟨pv1, fs, rfl, sm, hD2, nd, hfl, hfs⟩
      rw [hlv, List.take_length] at hfs
      rw [hlv] at hfl
      refine ⟨_, rfl, D, fs, rfl, SqL.of hD2, by omega, fun l ms hl hle hpm => ?_⟩
      refine q l ms _ (sm.free hl) upd_same ⟨(hle.and (hpm.nodup_iff.mpr nd)).imp fun {a b} ⟨x, y⟩ => by omega, fun c => by rw [hpm.mem_iff, hfs]⟩ (sm.trans (Same.upd hl))
end
end K08

namespace K08
open PySem L2 Gm Zk
abbrev nLCounts : List Str := ["game", "hand", "plan", "crown", "counts", "place", "turn", "more", "best"]
theorem scLCounts : FnScope nLCounts ["game", "hand", "plan", "crown"] (defScope sLCounts) := ⟨rfl, rfl, rfl, by decide +kernel, rfl, by decide +kernel, by decide +kernel⟩
theorem lcLCounts1 : LcOk (defScope sLCounts) nLCounts ["way", "counts"] [none, some 4] (mkSc [(".0", .local), ("way", .local), ("counts", .free)]) :=
  ⟨rfl, by decide +kernel, by decide +kernel, by decide +kernel, by decide +kernel, rfl, by decide +kernel⟩
theorem putK_last {kvs : List (Key × V)} {k : Key} {x v : V} (h : valV kvs k = none) : putK (putK kvs k x) k v = kvs ++ [(k, v)] := by
  rw [putK_new _ h]
  unfold putK
  have hany : (kvs.any fun kv => decide (kv.1 = k)) = false := by rw [valV_any, h]; rfl
  rw [if_pos (by simp)]
  rw [List.map_append]
  congr 1
  · rw [List.map_congr_left (g := id) fun p hp => ?_, List.map_id]
    have : ¬ p.1 = k := fun e => by
      have := List.any_eq_false.mp hany p hp
      exact this (decide_eq_true e)
    simp [this]
  · simp
def spLCounts : Sp := fun vs H Q _ => ∃ (v : V) (g : List Pl) (h : Int) (a : Addr) (pl : Plan) (c : Int), vs = [v, .int h, .ref a, .int c] ∧ IsGm H v g ∧ (∀ p ∈ g, WfPl g.length p) ∧ g.length < 1000 ∧ Rd H a (.dK (kvP pl)) ∧ PlOk g h pl ∧ keepsB g h pl = true ∧
  ∀ (l : Addr) (H' : Hp), H l = none → H' l = some (.dK (kvI pl (cnt (nxt g h pl) (crw g) c pl.length))) → Same H H' → Q (.ref l) H'
section
variable {P : Program} {w : World} {K : PySem.W.Frag} {mg : Str → Option Value} {base : Heap}
theorem ok_lcounts {f f1 : Addr} {fd fd1 : FuncData} (F : Fun K "_law_counts" "_law_counts" sLCounts f fd) (T : Txt mg)
    (G1 : FnOk P w K mg base CX0 1 f1 fd1 ["game", "hand", "plan", "place"] spGoes) (k1 : PySem.W.keepIn K (.ref f1) = true) (m1 : mg "_law_goes" = some (.ref f1)) (b1 : Binds K fd1 ["game", "hand", "plan", "place"] []) :
    FnOk P w K mg base CX0 2 f fd ["game", "hand", "plan", "crown"] spLCounts := by
  refine F.ok scLCounts (fun vs H Q E h => ?_) (fun cdv A outer s H vs Q E hr h => ?_)
  · obtain ⟨v, g, h, a, pl, c, rfl, _⟩ := h
    rfl
  · obtain ⟨v, g, h, a, pl, c, rfl, ig, wf, hgl, hpl, pk, kb, q⟩ := h
    obtain ⟨ga, vs, rfl, hga, hp⟩ := id ig
    have hu := hu_of hr
    have hin : ∀ k ∈ pl.map (·.1), 0 ≤ k ∧ k < (g.length : Int) := fun k hk => ⟨(keeps_in kb hk).1, (keeps_in kb hk).2.1⟩
    have hpll : pl.length ≤ g.length := pl_len pk.nd fun kv hm => hin _ (List.mem_map.mpr ⟨kv, hm, rfl⟩)
    have hnl := nxt_len (h := h) (pl := pl) (n := 1000) (fun p hp' => by have := wf_len (wf p hp'); omega) (by omega)
    refine ⟨_, pss_cons (ps_set (i := 4) scLCounts.nd rfl (Or.inr rfl) pe_dnewK)
      (pss_cons (ps_frz (ps_for PassesOwn.never rfl (pi_dict (pv 2)) (pg_name (i := 5) scLCounts.nd rfl (Or.inl rfl)) (pss_one (ps_dput hu (pv 4) (pv 5) pe_int (by rfl)))))
      (pss_cons (ps_for PassesOwn.never rfl (pi_range1 rfl T.range (pa_cons (pe_callB call_lenR rfl T.len PySem.boot_len (pa_cons (pv 2) pa_nil)) pa_nil)) (pg_name (i := 6) scLCounts.nd rfl (Or.inl rfl)) (pss_cons (ps_set (i := 7) scLCounts.nd rfl (Or.inl rfl) pe_dnewK)
        (pss_cons (ps_frz (ps_for PassesOwn.never rfl (pi_dict (pv 2)) (pg_name (i := 5) scLCounts.nd rfl (Or.inl rfl)) (pss_cons (ps_dput hu (pv 7) (pv 5) pe_int (by rfl))
          (pss_one (ps_if (pt_cmpR op_le (pe_ix ix_tup (pe_ix ix_tup (pv 0) (pv 5) (fun _ _ => rfl)) pe_int (fun _ _ => rfl)) (pv 3) (nomark _)) (pss_cons (ps_set (i := 8) scLCounts.nd rfl (Or.inl rfl) (pe_callB (call_maxL rfl) rfl T.max PyProof.Rows.boot_max (pa_cons (pe_lc rfl lcLCounts1 (pi_list (pe_call G1 (hr.mono (by decide)) rfl m1 k1 b1 .nil pass0 (pa_cons (pv 0) (pa_cons (pv 1) (pa_cons (pv 2) (pa_cons (pv 5) pa_nil)))))) (fun cl C ex s H => ⟨(pg_name (i := 0) lcLCounts1.nd rfl (Or.inl rfl)), pif_nil, (pe_dget hu (pv 1) (pv 0) (fun _ _ => rfl))⟩)) pa_nil)))
            (pss_one (ps_dput hu (pv 7) (pv 5) (pe_op op_add (pv 8) (pe_callTy call_int_bl rfl T.int PyProof.Rows.boot_int (pa_cons (pe_cmpR op_eq (pe_ix ix_tup (pe_ix ix_tup (pv 0) (pv 5) (fun _ _ => rfl)) pe_int (fun _ _ => rfl)) (pv 3) (nomark _)) pa_nil))) (by rfl)))) pss_nil)))))
        (pss_one (ps_set (i := 4) scLCounts.nd rfl (Or.inr rfl) (pv 7))))))
      (pss_one (ps_ret (pv 4))))), ?_⟩
    refine fun L hL => ?_
    have sm0 : Same H (upd H L (.dK [])) := Same.upd hL
    have hL0 : upd H L (.dK []) L = some (.dK (kvI (pl.take 0) (fun _ => 0))) := upd_same
    generalize upd H L (.dK []) = H1 at sm0 hL0
    have hpl1 := sm0.rd hpl
    have e1a : H1 a = H a := by rcases hpl with y | ⟨_, y⟩ <;> rw [y, sm0 a _ y]
    have naL : L ≠ a := fun z => by rcases hpl with y | ⟨_, y⟩ <;> (rw [z] at hL; rw [hL] at y; cases y)
    refine ⟨a, kvP pl, hpl1, fun o => ?_⟩
    have hLf : fz H a o (kvP pl) L = none := by rw [fz_ne naL]; exact hL
    refine ⟨_, rfl, a, o, _, rfl, fz_at, for_dict (fun i σ H2 => (∃ (s5 : Option V), σ = [some (.ref ga), some (.int h), some (.ref a), some (.int c), some (.ref L), s5, none, none, none]) ∧ Same (fz H a o (kvP pl)) H2 ∧ H2 L = some (.dK (kvI (pl.take i) (fun _ => 0)))) ?_ ?_ ?_ ?_⟩
    · exact ⟨⟨none, rfl⟩, same_fz sm0 e1a, by rw [fz_ne naL]; exact hL0⟩
    · rintro i σ H2 _ ⟨_, sm, _⟩
      exact back_fz sm
    · rintro i kk vv σ H2 hi ⟨⟨s5, rfl⟩, sm, hL2⟩
      obtain ⟨j, ob, rfl, rfl, hj⟩ := kvP_get hi
      unfold gName
      refine ⟨_, rfl, _, rfl, L, _, rfl, .inl ⟨_, Sum.inl j, hL2, rfl, ?_, rfl⟩, ?_⟩
      · rw [kvI_len, sizeLine_eq]
        have := List.length_take_le' i pl
        omega
      · refine ⟨⟨_, rfl⟩, sm.upd' hLf, ?_⟩
        rw [upd_same]
        exact congrArg (fun x => some (HO.dK x)) (putK_kvI pk.nd hj (fun _ => 0))
    · rintro σ H2 ⟨⟨s5, rfl⟩, sm, hL2⟩
      rw [kvP_len, List.take_length] at hL2
      refine ⟨back_fz sm, ?_⟩
      rw [back_cg e1a]
      have sm3 := same_back sm
      have hL3 : back H a H2 L = some (.dK (kvI pl (fun _ => 0))) := by rw [back_ne naL]; exact hL2
      generalize back H a H2 = H3 at sm3 hL3
      refine ⟨_, rfl, a, _, rfl, sm3.rd hpl, _, rfl, by rw [kvP_len]; omega, by rw [kvP_len]; omega, for_range (n := (((kvP pl).length : Nat) : Int).toNat) (fun i σ H4 => ∃ (s5 s6 s7 s8 : Option V) (M : Addr), σ = [some (.ref ga), some (.int h), some (.ref a), some (.int c), some (.ref M), s5, s6, s7, s8] ∧ Same H H4 ∧ H M = none ∧ H4 M = some (.dK (kvI pl (cnt (nxt g h pl) (crw g) c i)))) ?_ ?_ ?_⟩
      · exact ⟨_, none, none, none, L, rfl, sm3, hL, hL3⟩
      · rintro t σ H4 hi ⟨s5, s6, s7, s8, M, rfl, sm4, hM, hM4⟩
        have naM : M ≠ a := fun z => by rcases hpl with y | ⟨_, y⟩ <;> (rw [z] at hM; rw [hM] at y; cases y)
        obtain ⟨f, hf⟩ : ∃ f, cnt (nxt g h pl) (crw g) c t = f := ⟨_, rfl⟩
        rw [hf] at hM4
        have f0 : ∀ k, 0 ≤ f k := fun k => by rw [← hf]; exact cnt_nonneg t k
        obtain ⟨F, hF⟩ : ∃ F, cnt (nxt g h pl) (crw g) c (t + 1) = F := ⟨_, rfl⟩
        have Fe : ∀ k, F k = if c < crw g k then 0 else mx ((nxt g h pl k).map f) + (if crw g k = c then 1 else 0) := fun k => by rw [← hF, ← hf]; rfl
        refine fun L' hL' => ?_
        have hL0' : H L' = none := sm4.free hL'
        have sm5 : Same H4 (upd H4 L' (.dK [])) := Same.upd hL'
        have hL5 : upd H4 L' (.dK []) L' = some (.dK (kvI (pl.take 0) F)) := upd_same
        generalize upd H4 L' (.dK []) = H5 at sm5 hL5
        have hpl4 := sm4.rd hpl
        have hpl5 := sm5.rd hpl4
        have e5a : H5 a = H4 a := by rcases hpl4 with y | ⟨_, y⟩ <;> rw [y, sm5 a _ y]
        have naL' : L' ≠ a := fun z => by rcases hpl4 with y | ⟨_, y⟩ <;> (rw [z] at hL'; rw [hL'] at y; cases y)
        refine ⟨a, kvP pl, hpl5, fun o => ?_⟩
        have tkf := tk_fz (o := o) hpl4
        have hLf' : fz H4 a o (kvP pl) L' = none := by rw [fz_ne naL']; exact hL'
        have hMf : fz H4 a o (kvP pl) M = some (.dK (kvI pl f)) := by rw [fz_ne naM]; exact hM4
        refine ⟨_, rfl, a, o, _, rfl, fz_at, for_dict (fun i σ H6 => (∃ (s5 s8 : Option V), σ = [some (.ref ga), some (.int h), some (.ref a), some (.int c), some (.ref M), s5, some (.int (0 + (t : Int))), some (.ref L'), s8]) ∧ Same (fz H4 a o (kvP pl)) H6 ∧ H6 L' = some (.dK (kvI (pl.take i) F))) ?_ ?_ ?_ ?_⟩
        · exact ⟨⟨_, _, rfl⟩, same_fz sm5 e5a, by rw [fz_ne naL']; exact hL5⟩
        · rintro i σ H6 _ ⟨_, sm6, _⟩
          exact back_fz sm6
        · rintro i kk vv σ H6 hi ⟨⟨t5, t8, rfl⟩, sm6, hL6⟩
          obtain ⟨j, ob, rfl, rfl, hj⟩ := kvP_get hi
          have hmem : (j, ob) ∈ pl := List.mem_of_getElem? hj
          have hjk : j ∈ pl.map (·.1) := List.mem_map.mpr ⟨_, hmem, rfl⟩
          obtain ⟨j0, j1⟩ := hin j hjk
          obtain ⟨p, hk⟩ := at_in j0 j1
          have hc : crw g j = p.2.1 := crw_of hk
          have hsz : (kvI (pl.take i) F).length < 1000 := by
            rw [kvI_len]
            have := List.length_take_le' i pl
            omega
          have hnew : valV (kvI (pl.take i) F) (Sum.inl j) = none := by rw [valV_kvI, if_neg (not_take pk.nd hj)]
          have ext : kvI (pl.take i) F ++ [(Sum.inl j, .int (F j))] = kvI (pl.take (i + 1)) F := by
            rw [← putK_new _ hnew]
            exact putK_kvI pk.nd hj F
          unfold gName
          refine ⟨_, rfl, _, rfl, L', _, rfl, .inl ⟨_, Sum.inl j, hL6, rfl, by rw [sizeLine_eq]; omega, rfl⟩, ?_⟩
          obtain ⟨H7, eH7, sm7, hL7⟩ : ∃ H7, H7 = upd H6 L' (.dK (putK (kvI (pl.take i) F) (Sum.inl j) (.int 0))) ∧ Same (fz H4 a o (kvP pl)) H7 ∧ H7 L' = some (.dK (putK (kvI (pl.take i) F) (Sum.inl j) (.int 0))) := ⟨_, rfl, sm6.upd' hLf', upd_same⟩
          rw [← eH7]
          have tk7 : TK H H7 := fun b xs e => sm7 b _ (tkf b xs (sm4.tk b xs e))
          obtain ⟨hga7, pa, pb, hat, ha, hb⟩ := gm_at hga hp tk7 j0 hk
          refine ⟨_, rfl, _, rfl, ga, vs, _, _, rfl, rfl, SqT.of hga7, hat, pa, _, _, _, rfl, rfl, SqT.of ha, rfl, _, rfl, _, _, rfl, rfl, _, rfl, ?_⟩
          refine ite2 (fun hle => ?_) (fun hle => ?_)
          · have hle' : p.2.1 ≤ c := of_decide_eq_true hle
            refine ⟨_, rfl, _, rfl, _, rfl, _, rfl, .ref ga, g, h, a, pl, j, p, rfl, ig.tk tk7, .inr ⟨o, back_fz sm7⟩, j0, hk, fun e => pk.own hjk j0 hk e, fun tt H8 htt ht8 sm8 => ?_⟩
            refine ⟨tt, rfl, ⟨_, SqL.of ht8⟩, fun D hD => lc_mapI (fun x => V.int (f x)) ht8 (by have := hnl j; omega) hD (fun x hx H9 sm9 Q' hQ => ?_) (fun H9 sm9 hD9 => ?_)⟩
            · have hxk : x ∈ pl.map (·.1) := (keeps_in kb hjk).2.2 x hx
              refine ⟨_, rfl, _, rfl, M, _, rfl, (by have := DGet.k (k := Sum.inl x) ((sm7.trans sm8).trans sm9 M _ hMf); rw [valV_kvI, if_pos hxk] at this; exact this), hQ H9 (Same.refl _)⟩
            · have hD9' : H9 D = some (.lst (((nxt g h pl j).map f).map V.int)) := by rw [hD9, List.map_map]; rfl
              refine ⟨D, _, rfl, SqL.of hD9', (fun z => nxt_ne wf pk kb hjk (List.map_eq_nil_iff.mp z)), fun B hB hBle => ?_⟩
              have hB0 : 0 ≤ B := by
                obtain ⟨y, _, e⟩ := List.mem_map.mp hB
                rw [← e]; exact f0 y
              have hmx := mx_uniq hB hBle hB0
              have sm79 := sm8.trans sm9
              have hL9 := sm79 L' _ hL7
              refine ⟨_, rfl, _, rfl, _, rfl, ga, vs, _, _, rfl, rfl, SqT.of (sm79 ga _ hga7), hat, pa, _, _, _, rfl, rfl, SqT.of (sm79 pa _ ha), rfl, _, rfl, rfl, _, rfl, _, _, rfl, rfl, ?_⟩
              have hv : B + (if (decide (V.int p.2.1 = V.int c)) = true then 1 else 0) = F j := by
                rw [dec_ii, Fe, hc, if_neg (show ¬ c < p.2.1 by omega), hmx]
                by_cases e : p.2.1 = c
                · simp [e]
                · simp [e]
              refine ⟨_, rfl, _, rfl, L', _, rfl, .inl ⟨_, Sum.inl j, hL9, rfl, ?_, rfl⟩, ?_⟩
              · rw [putK_new _ hnew, List.length_append, sizeLine_eq]
                show _ + 1 < _
                omega
              · refine ⟨⟨_, _, rfl⟩, (sm7.trans sm79).upd' hLf', ?_⟩
                rw [upd_same, putK_last hnew, ← ext]
                exact congrArg (fun x => some (HO.dK (kvI (pl.take i) F ++ [(Sum.inl j, V.int x)]))) hv
          · refine ⟨⟨_, _, rfl⟩, sm7, ?_⟩
            have hF0 : F j = 0 := by rw [Fe, hc, if_pos (by
              rcases Int.lt_or_le c p.2.1 with z | z
              · exact z
              · exact absurd (decide_eq_true z) hle)]
            rw [hL7, putK_new _ hnew, ← ext, hF0]
        · rintro σ H6 ⟨⟨t5, t8, rfl⟩, sm6, hL6⟩
          rw [kvP_len, List.take_length] at hL6
          refine ⟨back_fz sm6, _, rfl, ?_⟩
          rw [back_cg e5a]
          refine ⟨_, _, _, _, L', rfl, sm4.trans (same_back sm6), hL0', ?_⟩
          rw [back_ne naL', hL6, hF]
      · rintro σ H4 ⟨s5, s6, s7, s8, M, rfl, sm4, hM, hM4⟩
        rw [kvP_len, Int.toNat_natCast] at hM4
        exact ⟨_, rfl, q M H4 hM hM4 sm4⟩
end
end K08

namespace K08
open PySem L2 Gm Zk
abbrev nLShown : List Str := ["game", "hand", "plan", "crowns", "sheet", "place", "way", "k"]
theorem scLShown : FnScope nLShown ["game", "hand", "plan", "crowns", "sheet"] (defScope sLShown) := ⟨rfl, rfl, rfl, by decide +kernel, rfl, by decide +kernel, by decide +kernel⟩
def spLShown : Sp := fun vs H Q _ => ∃ (v : V) (g : List Pl) (h : Int) (a : Addr) (pl : Plan) (d : Addr) (kvs : List (Key × V)) (F : Int → List Int) (cl : Addr) (ns : List Int), vs = [v, .int h, .ref a, .ref cl, .ref d] ∧ IsGm H v g ∧ (∀ p ∈ g, WfPl g.length p) ∧ g.length < 1000 ∧ H a = some (.dK (kvP pl)) ∧ PlOk g h pl ∧ keepsB g h pl = true ∧ H d = some (.dK kvs) ∧ d ≠ a ∧ IsSheet H kvs pl F ∧ (∀ k ∈ pl.map (·.1), (F k).length = ns.length) ∧ H cl = some (.lst (ns.map V.int)) ∧ ns.length < 1000 ∧
  ∀ H', Same H H' → Q (.bl (shownB g h pl ns F)) H'
section
variable {P : Program} {w : World} {K : PySem.W.Frag} {mg : Str → Option Value} {base : Heap}
theorem ok_lshown {f f1 : Addr} {fd fd1 : FuncData} (F : Fun K "_law_shown" "_law_shown" sLShown f fd) (T : Txt mg)
    (G1 : FnOk P w K mg base CX0 1 f1 fd1 ["game", "hand", "plan", "place"] spGoes) (k1 : PySem.W.keepIn K (.ref f1) = true) (m1 : mg "_law_goes" = some (.ref f1)) (b1 : Binds K fd1 ["game", "hand", "plan", "place"] []) :
    FnOk P w K mg base CX0 2 f fd ["game", "hand", "plan", "crowns", "sheet"] spLShown := by
  refine F.ok scLShown (fun vs H Q E h => ?_) (fun cdv A outer s H vs Q E hr h => ?_)
  · obtain ⟨v, g, h, a, pl, d, kvs, F, cl, ns, rfl, _⟩ := h
    rfl
  · obtain ⟨v, g, h, a, pl, d, kvs, Fn, cl, ns, rfl, ig, wf, hgl, hpl, pk, kb, hd, nda, sh, hFl, hcl, hnsl, q⟩ := h
    obtain ⟨ga, vs, rfl, hga, hp⟩ := id ig
    have hu := hu_of hr
    refine ⟨_, pss_cons (ps_frz (ps_for PassesOwn.never rfl (pi_dict (pv 2)) (pg_name (i := 5) scLShown.nd rfl (Or.inl rfl)) (pss_one (ps_for PassesOwn.never rfl (pi_list (pe_call G1 (hr.mono (by decide)) rfl m1 k1 b1 .nil pass0 (pa_cons (pv 0) (pa_cons (pv 1) (pa_cons (pv 2) (pa_cons (pv 5) pa_nil)))))) (pg_name (i := 6) scLShown.nd rfl (Or.inl rfl)) (pss_one (ps_for PassesOwn.never rfl (pi_range1 rfl T.range (pa_cons (pe_callB call_len_seq rfl T.len PySem.boot_len (pa_cons (pv 3) pa_nil)) pa_nil)) (pg_name (i := 7) scLShown.nd rfl (Or.inl rfl)) (pss_cons (ps_if (PW.pt (pw_and (pt_cmpR op_gt (pe_ix ix_list (pv 3) (pv 7) (fun _ _ => rfl)) (pe_ix ix_tup (pe_ix ix_tup (pv 0) (pv 5) (fun _ _ => rfl)) pe_int (fun _ _ => rfl)) (nomark _)) (pw_and1 (pt_cmpR op_gt (pe_ix ix_list (pe_dget hu (pv 4) (pv 6) (fun _ _ => rfl)) (pv 7) (fun _ _ => rfl)) (pe_ix ix_list (pe_dget hu (pv 4) (pv 5) (fun _ _ => rfl)) (pv 7) (fun _ _ => rfl)) (nomark _))))) (pss_one (ps_ret pe_bl)) pss_nil)
            (pss_one (ps_if (PW.pt (pw_and (pt_cmpR op_eq (pe_ix ix_list (pv 3) (pv 7) (fun _ _ => rfl)) (pe_ix ix_tup (pe_ix ix_tup (pv 0) (pv 5) (fun _ _ => rfl)) pe_int (fun _ _ => rfl)) (nomark _)) (pw_and1 (pt_cmpR op_ge (pe_ix ix_list (pe_dget hu (pv 4) (pv 6) (fun _ _ => rfl)) (pv 7) (fun _ _ => rfl)) (pe_ix ix_list (pe_dget hu (pv 4) (pv 5) (fun _ _ => rfl)) (pv 7) (fun _ _ => rfl)) (nomark _))))) (pss_one (ps_ret pe_bl)) pss_nil)))))))))
      (pss_one (ps_ret pe_bl)), ?_⟩
    refine ⟨a, kvP pl, .inl hpl, fun o => ?_⟩
    have tkf := tk_fz (o := o) (.inl hpl)
    have other : ∀ b u, b ≠ a → H b = some u → fz H a o (kvP pl) b = some u := fun b u hb e => by rw [fz_ne hb]; exact e
    have hdf := other d _ nda hd
    have hCf := other cl _ (fun z => by rw [z, hpl] at hcl; cases hcl) hcl
    have shf : IsSheet (fz H a o (kvP pl)) kvs pl Fn := sh.tr fun r u e => other r _ (fun z => by rw [z, hpl] at e; cases e) e
    refine ⟨_, rfl, a, o, _, rfl, fz_at, for_dict (fun i σ H1 => (∃ s5 s6 s7, σ = [some (.ref ga), some (.int h), some (.ref a), some (.ref cl), some (.ref d), s5, s6, s7]) ∧ Same (fz H a o (kvP pl)) H1 ∧ ((pl.take i).all fun kv => placeOk g h pl ns Fn kv.1) = true) ?_ ?_ ?_ ?_⟩
    · exact ⟨⟨none, none, none, rfl⟩, Same.refl _, rfl⟩
    · rintro i σ H1 _ ⟨_, sm, _⟩
      exact back_fz sm
    · rintro i kk vv σ H1 hi ⟨⟨s5, s6, s7, rfl⟩, sm1, hall1⟩
      obtain ⟨k, ob, rfl, rfl, hj⟩ := kvP_get hi
      have hmem : (k, ob) ∈ pl := List.mem_of_getElem? hj
      have hkk : k ∈ pl.map (·.1) := List.mem_map.mpr ⟨_, hmem, rfl⟩
      obtain ⟨k0, kl, knx⟩ := keeps_in kb hkk
      obtain ⟨p, hk⟩ := at_in k0 kl
      have hc : crw g k = p.2.1 := crw_of hk
      have tk1 : TK H H1 := fun b xs e => sm1 b _ (tkf b xs e)
      refine ⟨_, rfl, _, rfl, _, rfl, _, rfl, .ref ga, g, h, a, pl, k, p, rfl, ig.tk tk1, .inr ⟨o, back_fz sm1⟩, k0, hk, fun e => pk.own hkk k0 hk e, fun t H2 ht0 ht sm2 => ?_⟩
      refine ⟨t, rfl, ⟨_, SqL.of ht⟩, for_list (xs := (nxt g h pl k).map V.int) (fun i σ H3 => (∃ s6 s7, σ = [some (.ref ga), some (.int h), some (.ref a), some (.ref cl), some (.ref d), some (.int k), s6, s7]) ∧ Same H2 H3 ∧ ((nxt g h pl k).take i).all (wayOk g ns Fn k) = true) ?_ ?_ ?_ ?_⟩
      · exact ⟨⟨_, _, rfl⟩, Same.refl _, rfl⟩
      · rintro i σ H3 _ ⟨_, sm3, _⟩
        exact SqL.of (sm3 t _ ht)
      · rintro i x σ H3 hi ⟨⟨u6, u7, rfl⟩, sm3, hall⟩
        obtain ⟨wy, rfl, hwi, hwm⟩ := geti hi
        have hwk : wy ∈ pl.map (·.1) := knx wy hwm
        have smf3 : Same (fz H a o (kvP pl)) H3 := (sm1.trans sm2).trans sm3
        obtain ⟨r1, hr1, hR1⟩ := shf.val hkk
        obtain ⟨r2, hr2, hR2⟩ := shf.val hwk
        refine ⟨_, rfl, cl, _, rfl, .inl (SqL.of (smf3 cl _ hCf)), _, rfl, by rw [List.length_map]; omega, by rw [List.length_map]; omega, for_range (n := (((ns.map V.int).length : Nat) : Int).toNat) (fun j σ H4 => (∃ s7, σ = [some (.ref ga), some (.int h), some (.ref a), some (.ref cl), some (.ref d), some (.int k), some (.int wy), s7]) ∧ Same H3 H4 ∧ (List.range j).all (cellOk g ns Fn k wy) = true) ?_ ?_ ?_⟩
        · exact ⟨⟨_, rfl⟩, Same.refl _, rfl⟩
        · rintro j σ H4 hj ⟨⟨t7, rfl⟩, sm4, hall4⟩
          rw [List.length_map] at hj
          have hj' : j < ns.length := by omega
          have smf4 : Same (fz H a o (kvP pl)) H4 := smf3.trans sm4
          have tk4 : TK H H4 := fun b xs e => smf4 b _ (tkf b xs e)
          have e0 : (0 : Int) + (j : Int) = ((j : Nat) : Int) := by omega
          obtain ⟨c, hcj⟩ : ∃ c, ns[j]? = some c := ⟨ns[j], List.getElem?_eq_getElem hj'⟩
          have cgd : ns.getD j 0 = c := getD_get hcj
          have gc : atI (ns.map V.int) (j : Int) = some (V.int c) := atI_nat (by rw [List.getElem?_map, hcj]; rfl)
          have g1 : atI ((Fn k).map V.int) (j : Int) = some (V.int ((Fn k).getD j 0)) := atI_nat (by rw [List.getElem?_map, List.getElem?_eq_getElem (by rw [hFl k hkk]; exact hj'), List.getD_eq_getElem?_getD, List.getElem?_eq_getElem (by rw [hFl k hkk]; exact hj')]; rfl)
          have g2 : atI ((Fn wy).map V.int) (j : Int) = some (V.int ((Fn wy).getD j 0)) := atI_nat (by rw [List.getElem?_map, List.getElem?_eq_getElem (by rw [hFl wy hwk]; exact hj'), List.getD_eq_getElem?_getD, List.getElem?_eq_getElem (by rw [hFl wy hwk]; exact hj')]; rfl)
          have gd1 : DGet H4 d (.int k) (some (.ref r1)) := .inl ⟨kvs, Sum.inl k, .inl (smf4 d _ hdf), rfl, hr1.symm⟩
          have gd2 : DGet H4 d (.int wy) (some (.ref r2)) := .inl ⟨kvs, Sum.inl wy, .inl (smf4 d _ hdf), rfl, hr2.symm⟩
          obtain ⟨hga4, pa, pb, hat, ha, hb⟩ := gm_at hga hp tk4 k0 hk
          have good : cellOk g ns Fn k wy j = true → (∃ s7, [some (V.ref ga), some (V.int h), some (V.ref a), some (V.ref cl), some (V.ref d), some (V.int k), some (V.int wy), some (V.int (j : Int))] = [some (.ref ga), some (.int h), some (.ref a), some (.ref cl), some (.ref d), some (.int k), some (.int wy), s7]) ∧ Same H3 H4 ∧ (List.range (j + 1)).all (cellOk g ns Fn k wy) = true := fun hok => by
            refine ⟨⟨_, rfl⟩, sm4, ?_⟩
            rw [List.range_succ, List.all_append, hall4]
            simp [hok]
          have bad : cellOk g ns Fn k wy j = false → H4 a = some (.frz o (.dK (kvP pl))) ∧ Q (.bl false) (back H a H4) := fun hno => by
            refine ⟨back_fz smf4, ?_⟩
            have e : shownB g h pl ns Fn = false := by
              unfold shownB
              rw [List.all_eq_false]
              refine ⟨_, hmem, ?_⟩
              unfold placeOk
              rw [Bool.not_eq_true, List.all_eq_false]
              refine ⟨wy, hwm, ?_⟩
              unfold wayOk
              rw [Bool.not_eq_true, List.all_eq_false]
              exact ⟨j, List.mem_range.mpr hj', by rw [hno]; decide⟩
            have := q _ (same_back smf4)
            rw [e] at this
            exact this
          have ek : cellOk g ns Fn k wy j = (!(decide (p.2.1 ≤ c)) || decide ((Fn wy).getD j 0 + (if c = p.2.1 then 1 else 0) ≤ (Fn k).getD j 0)) := by
            unfold cellOk
            rw [cgd, hc]
          have hCR4 := SqL.of (K := K) (smf4 cl _ hCf)
          have hr14 := SqL.of (K := K) (smf4 r1 _ hR1)
          have hr24 := SqL.of (K := K) (smf4 r2 _ hR2)
          -- the second test
          have second : (¬ (p.2.1 < c ∧ (Fn k).getD j 0 < (Fn wy).getD j 0)) → ∀ D : Ends, (∀ σ' H', ((∃ s7, σ' = [some (V.ref ga), some (V.int h), some (V.ref a), some (V.ref cl), some (V.ref d), some (V.int k), some (V.int wy), s7]) ∧ Same H3 H' ∧ (List.range (j + 1)).all (cellOk g ns Fn k wy) = true) → D.nx σ' H') → True := fun _ _ _ => trivial
          unfold gName
          rw [e0]
          refine ⟨_, rfl, _, rfl, cl, _, _, _, rfl, rfl, hCR4, gc, _, rfl, _, rfl, ga, vs, _, _, rfl, rfl, SqT.of hga4, hat, pa, _, _, _, rfl, rfl, SqT.of ha, rfl, _, _, rfl, rfl, _, rfl, ?_⟩
          refine ite2 (fun hgt => ?_) (fun hgt => ?_)
          · have hgt' : p.2.1 < c := of_decide_eq_true hgt
            refine ⟨_, rfl, _, rfl, d, _, rfl, gd2, _, rfl, r2, _, _, _, rfl, rfl, hr24, g2, _, rfl, _, rfl, d, _, rfl, gd1, _, rfl, r1, _, _, _, rfl, rfl, hr14, g1, _, _, rfl, rfl, _, rfl, ?_⟩
            refine ite2 (fun hv => ?_) (fun hv => ?_)
            · refine bad ?_
              rw [ek, decide_eq_true (show p.2.1 ≤ c by omega), if_neg (by omega), decide_eq_false (by have := of_decide_eq_true hv; omega)]
              rfl
            · refine ⟨_, rfl, _, rfl, cl, _, _, _, rfl, rfl, hCR4, gc, _, rfl, _, rfl, ga, vs, _, _, rfl, rfl, SqT.of hga4, hat, pa, _, _, _, rfl, rfl, SqT.of ha, rfl, rfl, _, rfl, ?_⟩
              rw [dec_ii, decide_eq_false (by omega)]
              refine iteF (iteF (good ?_))
              rw [ek, if_neg (by omega), decide_eq_true (show (Fn wy).getD j 0 + 0 ≤ (Fn k).getD j 0 by
                rcases Int.lt_or_le ((Fn k).getD j 0) ((Fn wy).getD j 0) with z | z
                · exact absurd (decide_eq_true z) hv
                · omega)]
              simp
          · have hle' : c ≤ p.2.1 := by
              rcases Int.lt_or_le p.2.1 c with z | z
              · exact absurd (decide_eq_true z) hgt
              · exact z
            refine iteF ?_
            refine ⟨_, rfl, _, rfl, cl, _, _, _, rfl, rfl, hCR4, gc, _, rfl, _, rfl, ga, vs, _, _, rfl, rfl, SqT.of hga4, hat, pa, _, _, _, rfl, rfl, SqT.of ha, rfl, rfl, _, rfl, ?_⟩
            rw [dec_ii]
            refine ite2 (fun he => ?_) (fun he => ?_)
            · have he' : c = p.2.1 := of_decide_eq_true he
              refine ⟨_, rfl, _, rfl, d, _, rfl, gd2, _, rfl, r2, _, _, _, rfl, rfl, hr24, g2, _, rfl, _, rfl, d, _, rfl, gd1, _, rfl, r1, _, _, _, rfl, rfl, hr14, g1, _, _, rfl, rfl, _, rfl, ?_⟩
              refine ite2 (fun hv => ?_) (fun hv => ?_)
              · refine bad ?_
                rw [ek, decide_eq_true (show p.2.1 ≤ c by omega), if_pos he', decide_eq_false (by have := of_decide_eq_true hv; omega)]
                rfl
              · refine good ?_
                rw [ek, if_pos he', decide_eq_true (show (Fn wy).getD j 0 + 1 ≤ (Fn k).getD j 0 by
                  rcases Int.lt_or_le ((Fn wy).getD j 0) ((Fn k).getD j 0) with z | z
                  · omega
                  · exact absurd (decide_eq_true z) hv)]
                simp
            · have he' : ¬ c = p.2.1 := fun z => he (decide_eq_true z)
              refine iteF (good ?_)
              rw [ek, decide_eq_false (show ¬ p.2.1 ≤ c by omega)]
              rfl
        · rintro σ H4 ⟨⟨t7, rfl⟩, sm4, hall4⟩
          rw [List.length_map, Int.toNat_natCast] at hall4
          refine ⟨⟨_, _, rfl⟩, sm3.trans sm4, ?_⟩
          rw [List.take_add_one, hwi, List.all_append, hall]
          show (true && ([wy].all (wayOk g ns Fn k))) = true
          rw [List.all_cons, show wayOk g ns Fn k wy = true from hall4]
          rfl
      · rintro σ H3 ⟨⟨u6, u7, rfl⟩, sm3, hall⟩
        rw [List.length_map, List.take_length] at hall
        refine ⟨⟨_, _, _, rfl⟩, (sm1.trans sm2).trans sm3, ?_⟩
        rw [List.take_add_one, hj, List.all_append, hall1]
        show (true && ([(k, ob)].all fun kv => placeOk g h pl ns Fn kv.1)) = true
        rw [List.all_cons, show placeOk g h pl ns Fn k = true from hall]
        rfl
    · rintro σ H1 ⟨⟨s5, s6, s7, rfl⟩, sm1, hall1⟩
      rw [kvP_len, List.take_length] at hall1
      refine ⟨back_fz sm1, ?_⟩
      have := q _ (same_back sm1)
      rw [show shownB g h pl ns Fn = true from hall1] at this
      exact this
end
end K08

namespace K08
open PySem L2 Gm Zk
abbrev nSheet : List Str := ["game", "hand", "plan", "crowns", "cell", "sheet", "place", "crown", "counts", "row", "at"]
theorem scSheet : FnScope nSheet ["game", "hand", "plan", "crowns", "cell"] (defScope sSheet) := ⟨rfl, rfl, rfl, by decide +kernel, rfl, by decide +kernel, by decide +kernel⟩
def spSheet : Sp := fun vs H Q _ => ∃ (v : V) (g : List Pl) (h : Int) (a : Addr) (pl : Plan) (cl : Addr) (ns : List Int) (ce : Int), vs = [v, .int h, .ref a, .ref cl, .int ce] ∧ IsGm H v g ∧ (∀ p ∈ g, WfPl g.length p) ∧ g.length < 1000 ∧ H a = some (.dK (kvP pl)) ∧ PlOk g h pl ∧ keepsB g h pl = true ∧ H cl = some (.lst (ns.map V.int)) ∧ ns.length < 1000 ∧
  ∀ (l : Addr) (kvs : List (Key × V)) (F : Int → List Int) (H' : Hp), H l = none → H' l = some (.dK kvs) → IsSheet H' kvs pl F → (∀ k ∈ pl.map (·.1), (F k).length = ns.length) → Same H H' → Q (.ref l) H'
theorem three_at {x y z : Int} (e : Int) (h0 : 0 ≤ e) (h1 : e < 3) : ∃ k, atI [V.int x, V.int y, V.int z] e = some (.int k) := by
  have : e = ((0 : Nat) : Int) ∨ e = ((1 : Nat) : Int) ∨ e = ((2 : Nat) : Int) := by omega
  rcases this with u | u | u
  · exact ⟨x, by rw [u]; exact atI_nat rfl⟩
  · exact ⟨y, by rw [u]; exact atI_nat rfl⟩
  · exact ⟨z, by rw [u]; exact atI_nat rfl⟩
section
variable {P : Program} {w : World} {K : PySem.W.Frag} {mg : Str → Option Value} {base : Heap}
theorem ok_sheet {f f1 : Addr} {fd fd1 : FuncData} (F : Fun K "_law_sheet" "_law_sheet" sSheet f fd) (T : Txt mg)
    (G1 : FnOk P w K mg base CX0 2 f1 fd1 ["game", "hand", "plan", "crown"] spLCounts) (k1 : PySem.W.keepIn K (.ref f1) = true) (m1 : mg "_law_counts" = some (.ref f1)) (b1 : Binds K fd1 ["game", "hand", "plan", "crown"] []) :
    FnOk P w K mg base CX0 3 f fd ["game", "hand", "plan", "crowns", "cell"] spSheet := by
  refine F.ok scSheet (fun vs H Q E h => ?_) (fun cdv A outer s H vs Q E hr h => ?_)
  · obtain ⟨v, g, h, a, pl, cl, ns, ce, rfl, _⟩ := h
    rfl
  · obtain ⟨v, g, h, a, pl, cl, ns, ce, rfl, ig, wf, hgl, hpl, pk, kb, hcl, hnsl, q⟩ := h
    obtain ⟨ga, vs, rfl, hga, hp⟩ := id ig
    have hu := hu_of hr
    have hu64 := hr.units
    have hpll := keepAt_in kb pk
    refine ⟨_, pss_cons (ps_set (i := 5) scSheet.nd rfl (Or.inl rfl) pe_dnewK)
      (pss_cons (ps_frz (ps_for PassesOwn.never rfl (pi_dict (pv 2)) (pg_name (i := 6) scSheet.nd rfl (Or.inl rfl)) (pss_one (ps_dput hu (pv 5) (pv 6) (pe_lst pa_nil) (by rfl)))))
      (pss_cons (ps_for PassesOwn.never rfl (pi_list (pv 3)) (pg_name (i := 7) scSheet.nd rfl (Or.inl rfl)) (pss_cons (ps_set (i := 8) scSheet.nd rfl (Or.inl rfl) (pe_call G1 (hr.mono (by decide)) rfl m1 k1 b1 .nil pass0 (pa_cons (pv 0) (pa_cons (pv 1) (pa_cons (pv 2) (pa_cons (pv 7) pa_nil))))))
        (pss_one (ps_frz (ps_for PassesOwn.never rfl (pi_dict (pv 2)) (pg_name (i := 6) scSheet.nd rfl (Or.inl rfl)) (pss_one (ps_expr (pe_bm PySem.F.plainAttrs_list PySem.F.slot_list_append PySem.F.type_list_append mt_append (pe_dget hu (pv 5) (pv 6) (fun _ _ => rfl)) (pa_cons (pe_dget hu (pv 8) (pv 6) (fun _ _ => rfl)) pa_nil)))))))))
      (pss_cons (ps_cut (ps_if (PW.pt (pw_and (pt_cmpR op_gt (pe_callB call_lenR rfl T.len PySem.boot_len (pa_cons (pv 2) pa_nil)) pe_int (nomark _)) (pw_and (pt_cmpR (op_neD hu64) (pv 3) (pe_lst pa_nil) (nomark _)) (pw_and1 (pt_cmpR op_gt (pe_op op_mod (pv 4) pe_int) pe_int (nomark _)))))) (pss_cons (ps_set (i := 9) scSheet.nd rfl (Or.inl rfl) (pe_dget hu (pv 5) (pe_ix ix_list (pe_callTy (call_listD rfl) rfl T.list PyProof.Rows.boot_list (pa_cons (pv 2) pa_nil)) (pe_op op_mod (pe_op op_fdiv (pv 4) pe_int) (pe_callB call_lenR rfl T.len PySem.boot_len (pa_cons (pv 2) pa_nil))) (fun _ _ => rfl)) (fun _ _ => rfl)))
        (pss_cons (ps_set (i := 10) scSheet.nd rfl (Or.inl rfl) (pe_op op_mod (pe_op op_fdiv (pv 4) pe_int) (pe_callB call_len_seq rfl T.len PySem.boot_len (pa_cons (pv 3) pa_nil))))
        (pss_one (ps_asg (pe_ix ix_list (pe_lst (pa_cons (pe_callB (call_max2 rfl) rfl T.max PyProof.Rows.boot_max (pa_cons pe_int (pa_cons (pe_op op_sub (pe_ix ix_list (pv 9) (pv 10) (fun _ _ => rfl)) pe_int) pa_nil))) (pa_cons (pe_op op_add (pe_ix ix_list (pv 9) (pv 10) (fun _ _ => rfl)) pe_int) (pa_cons (pe_op op_mod (pe_op op_fdiv (pv 4) pe_int) pe_int) pa_nil)))) (pe_op op_mod (pe_op op_fdiv (pv 4) pe_int) pe_int) (fun _ _ => rfl)) (pg_sub (pv 9) (pv 10) set_list))))) pss_nil))
      (pss_one (ps_ret (pv 5)))))), ?_⟩
    refine fun L hL => ?_
    have sm0 : Same H (upd H L (.dK [])) := Same.upd hL
    have hL0 : upd H L (.dK []) L = some (.dK []) := upd_same
    generalize upd H L (.dK []) = H1 at sm0 hL0
    have hpl1 := sm0 a _ hpl
    have e1a : H1 a = H a := by rw [hpl, hpl1]
    have naL : L ≠ a := fun z => by rw [z, hpl] at hL; cases hL
    refine ⟨a, kvP pl, .inl hpl1, fun o => ?_⟩
    have hLf : fz H a o (kvP pl) L = none := by rw [fz_ne naL]; exact hL
    refine ⟨_, rfl, a, o, _, rfl, fz_at, for_dict (fun i σ H2 => (∃ s6, σ = [some (.ref ga), some (.int h), some (.ref a), some (.ref cl), some (.int ce), some (.ref L), s6, none, none, none, none]) ∧ Same (fz H a o (kvP pl)) H2 ∧ ∃ kvs, H2 L = some (.dK kvs) ∧ IsSheet H2 kvs (pl.take i) (fun _ => []) ∧ (kvs.map (·.2)).Nodup ∧ (∀ kv ∈ kvs, ∃ r, kv.2 = .ref r ∧ fz H a o (kvP pl) r = none)) ?_ ?_ ?_ ?_⟩
    · exact ⟨⟨none, rfl⟩, same_fz sm0 e1a, [], by rw [fz_ne naL]; exact hL0, .nil, List.nodup_nil, fun kv hm => by cases hm⟩
    · rintro i σ H2 _ ⟨_, sm, _⟩
      exact back_fz sm
    · rintro i kk vv σ H2 hi ⟨⟨s6, rfl⟩, sm, kvs, hL2, sh2, nd2, fr2⟩
      obtain ⟨j, ob, rfl, rfl, hj⟩ := kvP_get hi
      unfold gName
      refine ⟨Nat.zero_le _, fun E2 hE2 => ?_⟩
      have nEL : E2 ≠ L := fun z => by rw [z, hL2] at hE2; cases hE2
      have hnew : valV kvs (Sum.inl j) = none := sh2.none (not_take pk.nd hj)
      have hkl : kvs.length ≤ pl.length := by
        have := sh2.len
        rw [List.length_take] at this
        omega
      refine ⟨_, rfl, _, rfl, L, _, rfl, .inl ⟨kvs, Sum.inl j, by rw [upd_ne (Ne.symm nEL)]; exact hL2, rfl, by rw [sizeLine_eq]; omega, rfl⟩, ?_⟩
      rw [putK_new _ hnew]
      have tr : ∀ r u, H2 r = some (.lst u) → upd (upd H2 E2 (.lst [])) L (.dK (kvs ++ [(Sum.inl j, V.ref E2)])) r = some (.lst u) := fun r u e => by
        rw [upd_ne (fun z => by rw [z, hL2] at e; cases e), upd_ne (ne_of_none e hE2)]
        exact e
      refine ⟨⟨_, rfl⟩, (sm.upd' (sm.free hE2)).upd' hLf, kvs ++ [(Sum.inl j, V.ref E2)], upd_same, ?_, ?_, ?_⟩
      · rw [List.take_add_one, hj]
        exact Paired.snoc (sh2.tr tr) ⟨rfl, E2, rfl, by rw [upd_ne nEL, upd_same]; rfl⟩
      · rw [List.map_append, List.nodup_append]
        refine ⟨nd2, by simp, fun x hx y hy e => ?_⟩
        rw [List.map_singleton, List.mem_singleton] at hy
        subst hy e
        obtain ⟨kv, hkv, e⟩ := List.mem_map.mp hx
        obtain ⟨n, hn, en⟩ := List.getElem_of_mem hkv
        obtain ⟨p', _, _, r, e1, e2⟩ := paired_get sh2 (i := n) (x := kv) (by rw [List.getElem?_eq_getElem hn, en])
        rw [e] at e1
        have : E2 = r := V.ref.inj e1
        rw [← this, hE2] at e2
        cases e2
      · intro kv hkv
        rcases List.mem_append.mp hkv with z | z
        · exact fr2 kv z
        · rw [List.mem_singleton] at z
          subst z
          exact ⟨E2, rfl, sm.free hE2⟩
    · rintro σ H2 ⟨⟨s6, rfl⟩, sm, kvs, hL2, sh2, nd2, fr2⟩
      rw [kvP_len, List.take_length] at sh2
      refine ⟨back_fz sm, ?_⟩
      rw [back_cg e1a]
      have sm3 := same_back sm
      have hL3 : back H a H2 L = some (.dK kvs) := by rw [back_ne naL]; exact hL2
      have sh3 : IsSheet (back H a H2) kvs pl (fun _ => []) := sh2.tr fun r u e => by rw [back_ne (fun z => by rw [z, back_fz sm] at e; cases e)]; exact e
      have fr3 : ∀ kv ∈ kvs, ∃ r, kv.2 = .ref r ∧ H r = none := fun kv hkv => by
        obtain ⟨r, e1, e2⟩ := fr2 kv hkv
        exact ⟨r, e1, (fz_free e2).2⟩
      generalize back H a H2 = H3 at sm3 hL3 sh3
      -- for crown in crowns
      refine ⟨_, rfl, cl, rfl, ⟨_, SqL.of (sm3 cl _ hcl)⟩, for_list (xs := ns.map V.int) (fun i σ H4 => ∃ (s6 s7 s8 : Option V) (F : Int → List Int), σ = [some (.ref ga), some (.int h), some (.ref a), some (.ref cl), some (.int ce), some (.ref L), s6, s7, s8, none, none] ∧ Same H H4 ∧ H4 L = some (.dK kvs) ∧ IsSheet H4 kvs pl F ∧ ∀ k ∈ pl.map (·.1), (F k).length = i) ?_ ?_ ?_ ?_⟩
      · exact ⟨_, none, none, _, rfl, sm3, hL3, sh3, fun k _ => rfl⟩
      · rintro i σ H4 _ ⟨_, _, _, _, _, sm4, _⟩
        exact SqL.of (sm4 cl _ hcl)
      · rintro i x σ H4 hi ⟨s6', s7, s8, F, rfl, sm4, hL4, sh4, hF4⟩
        obtain ⟨c, rfl, hci, hc⟩ := geti hi
        have hi' := get_lt hci
        refine ⟨_, rfl, _, rfl, _, rfl, _, rfl, .ref ga, g, h, a, pl, c, rfl, ig.tk sm4.tk, wf, hgl, .inl (sm4 a _ hpl), pk, kb, fun CD H5 hCD hCD5 sm5 => ?_⟩
        have smH5 : Same H H5 := sm4.trans sm5
        have hpl5 := smH5 a _ hpl
        have hL5 := sm5 L _ hL4
        have sh5 := sh4.tr (fun r u e => sm5 r _ e)
        have ncL : CD ≠ L := fun z => by rw [z, hL4] at hCD; cases hCD
        have nca : CD ≠ a := fun z => by rw [z, sm4 a _ hpl] at hCD; cases hCD
        refine ⟨a, kvP pl, .inl hpl5, fun o2 => ?_⟩
        have other : ∀ b u, b ≠ a → H5 b = some u → fz H5 a o2 (kvP pl) b = some u := fun b u hb e => by rw [fz_ne hb]; exact e
        have freef : ∀ r, H r = none → fz H a o2 (kvP pl) r = none := fun r e => by rw [fz_ne (fun z => by rw [z, hpl] at e; cases e)]; exact e
        refine ⟨_, rfl, a, o2, _, rfl, fz_at, for_dict (fun n σ H6 => (∃ s6, σ = [some (.ref ga), some (.int h), some (.ref a), some (.ref cl), some (.int ce), some (.ref L), s6, some (.int c), some (.ref CD), none, none]) ∧ Same (fz H a o2 (kvP pl)) H6 ∧ H6 L = some (.dK kvs) ∧ H6 CD = some (.dK (kvI pl (cnt (nxt g h pl) (crw g) c pl.length))) ∧ ∃ F : Int → List Int, IsSheet H6 kvs pl F ∧ (∀ k ∈ (pl.take n).map (·.1), (F k).length = i + 1) ∧ (∀ k ∈ pl.map (·.1), ¬ k ∈ (pl.take n).map (·.1) → (F k).length = i)) ?_ ?_ ?_ ?_⟩
        · refine ⟨⟨_, rfl⟩, same_fz smH5 (by rw [hpl5, hpl]), other L _ naL hL5, other CD _ nca hCD5, F, sh5.tr (fun r u e => other r _ (fun z => by rw [z, hpl5] at e; cases e) e), fun k hk => by simp at hk, fun k hk _ => hF4 k hk⟩
        · rintro n σ H6 _ ⟨_, sm6, _⟩
          exact back_fz sm6
        · rintro n kk vv σ H6 hn ⟨⟨t6, rfl⟩, sm6, hL6, hCD6, F', sh6, hFa, hFb⟩
          obtain ⟨j, ob, rfl, rfl, hj⟩ := kvP_get hn
          have hjk : j ∈ pl.map (·.1) := List.mem_map.mpr ⟨_, List.mem_of_getElem? hj, rfl⟩
          obtain ⟨r, hrv, hR⟩ := sh6.val hjk
          have hr0 : H r = none := by
            obtain ⟨r', e1, e2⟩ := fr3 _ (valV_mem hrv)
            rw [V.ref.inj e1]; exact e2
          have hget := DGet.k (k := Sum.inl j) hL6
          rw [hrv] at hget
          have hgc := DGet.k (k := Sum.inl j) hCD6
          rw [valV_kvI, if_pos hjk] at hgc
          have hlj : (F' j).length = i := hFb j hjk (not_take pk.nd hj)
          have nrL : r ≠ L := fun z => by rw [z, hL6] at hR; cases hR
          have nrC : r ≠ CD := fun z => by rw [z, hCD6] at hR; cases hR
          unfold gName
          refine ⟨_, rfl, _, rfl, L, _, rfl, hget, .inl ⟨rfl, _, SqL.of hR⟩, _, rfl, _, rfl, CD, _, rfl, hgc, r, _, _, rfl, rfl, hR, (by rw [List.length_map, sizeLine_eq]; omega), ?_⟩
          have eR : ((F' j).map V.int ++ [V.int (cnt (nxt g h pl) (crw g) c pl.length j)]) = (F' j ++ [cnt (nxt g h pl) (crw g) c pl.length j]).map V.int := by simp
          rw [eR]
          refine ⟨⟨_, rfl⟩, sm6.upd' (freef r hr0), by rw [upd_ne (Ne.symm nrL)]; exact hL6, by rw [upd_ne (Ne.symm nrC)]; exact hCD6, _, sh6.set nd2 pk.nd hrv (F' j ++ [cnt (nxt g h pl) (crw g) c pl.length j]), fun k hk => ?_, fun k hk hn' => ?_⟩
          · by_cases e : k = j
            · rw [if_pos e, List.length_append, hlj]; rfl
            · rw [if_neg e]
              refine hFa k ?_
              rw [List.take_add_one, hj, List.map_append] at hk
              rcases List.mem_append.mp hk with z | z
              · exact z
              · exact absurd (by simpa using z) e
          · have e : ¬ k = j := fun e => hn' (by rw [List.take_add_one, hj, List.map_append, e]; exact List.mem_append_right _ (by simp))
            rw [if_neg e]
            exact hFb k hk fun z => hn' (by rw [List.take_add_one, hj, List.map_append]; exact List.mem_append_left _ z)
        · rintro σ H6 ⟨⟨t6, rfl⟩, sm6, hL6, hCD6, F', sh6, hFa, hFb⟩
          rw [kvP_len, List.take_length] at hFa
          refine ⟨back_fz sm6, ?_⟩
          rw [back_cg (H := H) (by rw [hpl5, hpl])]
          exact ⟨_, _, _, F', rfl, same_back sm6, by rw [back_ne naL]; exact hL6, sh6.tr (fun r u e => by rw [back_ne (fun z => by rw [z, back_fz sm6] at e; cases e)]; exact e), hFa⟩
      · rintro σ H4 ⟨s6', o7, o8, F, rfl, sm4, hL4, sh4, hF4⟩
        rw [List.length_map] at hF4
        have hpl4 := sm4 a _ hpl
        have hcl4 := sm4 cl _ hcl
        refine ⟨fun σ' H' => ∃ (s6 s7 s8 s9 s10 : Option V) (F : Int → List Int), σ' = [some (.ref ga), some (.int h), some (.ref a), some (.ref cl), some (.int ce), some (.ref L), s6, s7, s8, s9, s10] ∧ Same H H' ∧ H' L = some (.dK kvs) ∧ IsSheet H' kvs pl F ∧ ∀ k ∈ pl.map (·.1), (F k).length = ns.length, ?_, ?_⟩
        · have done : ∀ H5, Same H4 H5 → ∃ (s6 s7 s8 s9 s10 : Option V) (F : Int → List Int), [some (V.ref ga), some (V.int h), some (V.ref a), some (V.ref cl), some (V.int ce), some (V.ref L), s6', o7, o8, none, none] = [some (.ref ga), some (.int h), some (.ref a), some (.ref cl), some (.int ce), some (.ref L), s6, s7, s8, s9, s10] ∧ Same H H5 ∧ H5 L = some (.dK kvs) ∧ IsSheet H5 kvs pl F ∧ ∀ k ∈ pl.map (·.1), (F k).length = ns.length := fun H5 sm5 =>
            ⟨_, _, _, _, _, F, rfl, sm4.trans sm5, sm5 L _ hL4, sh4.tr (fun r u e => sm5 r _ e), hF4⟩
          refine ⟨_, rfl, a, _, rfl, .inl hpl4, _, _, rfl, rfl, _, rfl, ?_⟩
          refine ite2 (fun hp0 => ?_) (fun hp0 => ?_)
          · have hp1 : 0 < pl.length := by
              have := of_decide_eq_true hp0
              rw [kvP_len] at this
              omega
            refine ⟨_, rfl, Nat.zero_le _, fun E2 hE2 => ?_⟩
            have smE : Same H4 (upd H4 E2 (.lst [])) := Same.upd hE2
            refine ⟨_, _, rdlist (smE cl _ hcl4), .lst upd_same .nil, shapedints _, by decide, ?_⟩
            rw [neList]
            refine ⟨_, rfl, ?_⟩
            generalize upd H4 E2 (.lst []) = H5 at smE
            refine ite2 (fun hne => ?_) (fun hne => ?_)
            · have hne' : ns ≠ [] := fun z => by rw [decide_eq_true z] at hne; cases hne
              have hnp : 0 < ns.length := List.length_pos_iff.mpr hne'
              refine ⟨_, rfl, _, _, rfl, rfl, (by show (0 : Int) < 3; decide), _, _, rfl, rfl, _, rfl, ?_⟩
              refine ite2 (fun _ => ?_) (fun _ => done H5 smE)
              have hpl5 := smE a _ hpl4
              have hL5 := smE L _ hL4
              have hcl5 := smE cl _ hcl4
              have sh5 := sh4.tr (fun r u e => smE r _ e)
              refine ⟨_, rfl, _, rfl, a, _, rfl, .inl hpl5, fun KL hKL => ?_⟩
              have sm6 : Same H5 (upd H5 KL (.lst ((kvP pl).map fun kv => kV kv.1))) := Same.upd hKL
              have hKL6 : upd H5 KL (.lst ((kvP pl).map fun kv => kV kv.1)) KL = some (.lst ((pl.map (·.1)).map V.int)) := by rw [upd_same, keys_ints]
              generalize upd H5 KL (.lst ((kvP pl).map fun kv => kV kv.1)) = H6 at sm6 hKL6
              have plp : (0 : Int) < (pl.length : Int) := by omega
              have b0 : 0 ≤ ce / 3 % (pl.length : Int) := Int.emod_nonneg _ (Int.ne_of_gt plp)
              have b1 : ce / 3 % (pl.length : Int) < (pl.length : Int) := Int.emod_lt_of_pos _ plp
              obtain ⟨k, hk⟩ : ∃ k, (pl.map (·.1)).getD (ce / 3 % (pl.length : Int)).toNat 0 = k := ⟨_, rfl⟩
              have hkk : k ∈ pl.map (·.1) := by
                rw [← hk, List.getD_eq_getElem?_getD, List.getElem?_eq_getElem (by rw [List.length_map]; omega)]
                exact List.getElem_mem _
              have sh6 := sh5.tr (fun r u e => sm6 r _ e)
              obtain ⟨r, hrv, hR⟩ := sh6.val hkk
              have hget := DGet.k (k := Sum.inl k) (sm6 L _ hL5)
              rw [hrv] at hget
              refine ⟨_, rfl, _, _, rfl, rfl, ⟨by decide, by decide⟩, _, rfl, a, _, rfl, .inl (sm6 a _ hpl5), _, _, rfl, rfl, (by rw [kvP_len]; exact plp), KL, _, _, _, rfl, rfl, SqL.of hKL6, (by rw [kvP_len]; exact atints b0 (by rw [List.length_map]; exact b1)), L, _, rfl, (by rw [hk]; exact hget), ?_⟩
              have nsp : (0 : Int) < (ns.length : Int) := by omega
              refine ⟨_, rfl, _, _, rfl, rfl, ⟨by decide, by decide⟩, _, rfl, cl, _, rfl, .inl (SqL.of (sm6 cl _ hcl5)), _, _, rfl, rfl, (by rw [List.length_map]; exact nsp), ?_⟩
              have a0 : 0 ≤ ce / 36 % (ns.length : Int) := Int.emod_nonneg _ (Int.ne_of_gt nsp)
              have a1 : ce / 36 % (ns.length : Int) < (ns.length : Int) := Int.emod_lt_of_pos _ nsp
              have hlk : (Fx : List Int) → Fx.length = ns.length → atI (Fx.map V.int) (ce / 36 % ((ns.map V.int).length : Int)) = some (V.int (Fx.getD (ce / 36 % (ns.length : Int)).toNat 0)) := fun Fx hx => by rw [List.length_map]; exact atints a0 (by rw [hx]; exact a1)
              have hat := hlk (F k) (hF4 k hkk)
              refine ⟨_, rfl, _, rfl, r, _, _, _, rfl, rfl, SqL.of hR, hat, _, _, rfl, rfl, _, _, rfl, ?_⟩
              refine ⟨_, rfl, _, rfl, r, _, _, _, rfl, rfl, SqL.of hR, hat, _, _, rfl, rfl, ?_⟩
              refine ⟨_, rfl, _, _, rfl, rfl, ⟨by decide, by decide⟩, _, _, rfl, rfl, (by show (0 : Int) < 1001; decide), by show 3 ≤ sizeLine; decide, fun VL hVL => ?_⟩
              have c0 : 0 ≤ ce / 9 % 3 := Int.emod_nonneg _ (by decide)
              have c1 : ce / 9 % 3 < 3 := Int.emod_lt_of_pos _ (by decide)
              have sm7 := Same.upd (o := .lst [.int (if (F k).getD (ce / 36 % (ns.length : Int)).toNat 0 - 1 > 0 then (F k).getD (ce / 36 % (ns.length : Int)).toNat 0 - 1 else 0), .int ((F k).getD (ce / 36 % (ns.length : Int)).toNat 0 + 1), .int (ce / 1000 % 1001)]) hVL
              obtain ⟨X, hX⟩ := three_at (x := (if (F k).getD (ce / 36 % (ns.length : Int)).toNat 0 - 1 > 0 then (F k).getD (ce / 36 % (ns.length : Int)).toNat 0 - 1 else 0)) (y := (F k).getD (ce / 36 % (ns.length : Int)).toNat 0 + 1) (z := ce / 1000 % 1001) _ c0 c1
              refine ⟨_, rfl, _, _, rfl, rfl, ⟨by decide, by decide⟩, _, _, rfl, rfl, (by show (0 : Int) < 3; decide), VL, _, _, _, rfl, rfl, SqL.of upd_same, hX, ?_⟩
              have hR7 := sm7 r _ hR
              refine ⟨_, rfl, _, rfl, r, _, _, (ce / 36 % (ns.length : Int)).toNat, rfl, rfl, hR7, ?_, ?_⟩
              · unfold ixN
                rw [List.length_map, List.length_map, if_pos a0, if_pos (by rw [hF4 k hkk]; exact a1)]
              · have sh7 := sh6.tr (fun r u e => sm7 r _ e)
                have hr0 : H r = none := by
                  obtain ⟨r', e1, e2⟩ := fr3 _ (valV_mem hrv)
                  rw [V.ref.inj e1]; exact e2
                have nrL : L ≠ r := fun z => by rw [← z, sm6 L _ hL5] at hR; cases hR
                rw [List.map_set.symm]
                refine ⟨_, _, _, _, _, _, rfl, (((sm4.trans smE).trans sm6).trans sm7).upd' hr0, by rw [upd_ne nrL]; exact sm7 L _ (sm6 L _ hL5), sh7.set nd2 pk.nd hrv ((F k).set (ce / 36 % (ns.length : Int)).toNat X), fun k' hk' => ?_⟩
                by_cases e : k' = k
                · rw [if_pos e, List.length_set]; exact hF4 k hkk
                · rw [if_neg e]; exact hF4 k' hk'
            · exact iteF (done H5 smE)
          · exact iteF (done H4 (Same.refl _))
        · rintro σ5 H5 ⟨t6, t7, t8, t9, t10, F', rfl, sm5, hL5, sh5, hF5⟩
          exact ⟨_, rfl, q L kvs F' H5 hL hL5 sh5 hF5 sm5⟩
end
end K08

namespace K08
open PySem L2 Gm Zk
abbrev nLaw : List Str := ["script", "many", "game", "hand", "plan", "far", "kept_v", "crowns", "cell", "sheet", "place", "due", "handed", "copy", "found"]
theorem scLaw : FnScope nLaw ["script"] (defScope sLaw) := ⟨rfl, rfl, rfl, by decide +kernel, rfl, by decide +kernel, by decide +kernel⟩
theorem lcLaw1 : LcOk (defScope sLaw) nLaw ["k", "cell", "place"] [none, some 8, some 10] (mkSc [(".0", .local), ("k", .local), ("_law_mix", .globalImplicit), ("cell", .free), ("place", .free)]) :=
  ⟨rfl, by decide +kernel, by decide +kernel, by decide +kernel, by decide +kernel, rfl, by decide +kernel⟩
def spLaw (K : PySem.W.Frag) : Sp := fun vs H Q _ => ∃ (a : Addr) (ns : List Int), vs = [.ref a] ∧ SqL K H a (ns.map V.int) ∧ ns.length ≤ 63 ∧ ∀ H', Q (.bl true) H'
theorem two_at {x y : Int} (e : Int) (h0 : 0 ≤ e) (h1 : e < 2) : ∃ k, atI [V.int x, V.int y] e = some (.int k) ∧ (k = x ∨ k = y) := by
  have : e = ((0 : Nat) : Int) ∨ e = ((1 : Nat) : Int) := by omega
  rcases this with z | z
  · exact ⟨x, by rw [z]; exact atI_nat rfl, .inl rfl⟩
  · exact ⟨y, by rw [z]; exact atI_nat rfl, .inr rfl⟩
section
variable {P : Program} {w : World} {K : PySem.W.Frag} {mg : Str → Option Value} {base : Heap}
theorem ok_law {f f1 f2 f3 f4 f5 f6 f7 f8 f9 f10 f11 : Addr} {fd fd1 fd2 fd3 fd4 fd5 fd6 fd7 fd8 fd9 fd10 fd11 : FuncData} (F : Fun K "law" "law" sLaw f fd) (T : Txt mg)
    (G1 : FnOk P w K mg base CX0 1 f1 fd1 ["script", "k"] (spCell K)) (k1 : PySem.W.keepIn K (.ref f1) = true) (m1 : mg "_law_cell_at" = some (.ref f1)) (b1 : Binds K fd1 ["script", "k"] [])
    (G2 : FnOk P w K mg base CX0 3 f2 fd2 ["script", "start", "many", "spread", "low"] (spGame K)) (k2 : PySem.W.keepIn K (.ref f2) = true) (m2 : mg "_law_game" = some (.ref f2)) (b2 : Binds K fd2 ["script", "start", "many", "spread", "low"] [])
    (G3 : FnOk P w K mg base CX0 3 f3 fd3 ["script", "start", "game", "hand"] (spDrawn K)) (k3 : PySem.W.keepIn K (.ref f3) = true) (m3 : mg "_law_drawn" = some (.ref f3)) (b3 : Binds K fd3 ["script", "start", "game", "hand"] [])
    (G4 : FnOk P w K mg base CX0 1 f4 fd4 ["game", "hand", "plan"] spLKept) (k4 : PySem.W.keepIn K (.ref f4) = true) (m4 : mg "_law_kept" = some (.ref f4)) (b4 : Binds K fd4 ["game", "hand", "plan"] [])
    (G5 : FnOk P w K mg base CX0 1 f5 fd5 ["game", "hand", "plan"] spLKeeps) (k5 : PySem.W.keepIn K (.ref f5) = true) (m5 : mg "_law_keeps" = some (.ref f5)) (b5 : Binds K fd5 ["game", "hand", "plan"] [])
    (G6 : FnOk P w K mg base CX0 1 f6 fd6 ["game", "hand"] spLFeared) (k6 : PySem.W.keepIn K (.ref f6) = true) (m6 : mg "_law_feared" = some (.ref f6)) (b6 : Binds K fd6 ["game", "hand"] [])
    (G7 : FnOk P w K mg base CX0 3 f7 fd7 ["game", "hand", "plan", "crowns", "cell"] spSheet) (k7 : PySem.W.keepIn K (.ref f7) = true) (m7 : mg "_law_sheet" = some (.ref f7)) (b7 : Binds K fd7 ["game", "hand", "plan", "crowns", "cell"] [])
    (G8 : FnOk P w K mg base CX0 1 f8 fd8 ["cell", "k"] spMix) (k8 : PySem.W.keepIn K (.ref f8) = true) (m8 : mg "_law_mix" = some (.ref f8)) (b8 : Binds K fd8 ["cell", "k"] [])
    (G9 : FnOk P w K mg base CX0 2 f9 fd9 ["game", "hand", "plan", "crowns", "sheet"] spLShown) (k9 : PySem.W.keepIn K (.ref f9) = true) (m9 : mg "_law_shown" = some (.ref f9)) (b9 : Binds K fd9 ["game", "hand", "plan", "crowns", "sheet"] [])
    (G10 : FnOk P w K mg base CX0 4 f10 fd10 ["game", "hand", "plan", "paper"] spShows) (k10 : PySem.W.keepIn K (.ref f10) = true) (m10 : mg "shows" = some (.ref f10)) (b10 : Binds K fd10 ["game", "hand", "plan", "paper"] [])
    (G11 : FnOk P w K mg base CX0 2 f11 fd11 ["game", "hand", "plan"] spLost) (k11 : PySem.W.keepIn K (.ref f11) = true) (m11 : mg "_law_lost_round" = some (.ref f11)) (b11 : Binds K fd11 ["game", "hand", "plan"] []) :
    FnOk P w K mg base CX0 5 f fd ["script"] (spLaw K) := by
  refine F.ok scLaw (fun vs H Q E h => ?_) (fun cdv A outer s H vs Q E hr h => ?_)
  · obtain ⟨a, ns, rfl, _⟩ := h
    rfl
  · obtain ⟨a, ns, rfl, hS, hlen, q⟩ := h
    have hu := hu_of hr
    have hu64 := hr.units
    refine ⟨_, pss_cons (ps_set (i := 1) scLaw.nd rfl (Or.inl rfl) (pe_op op_add pe_int (pe_op op_mod (pe_call G1 (hr.mono (by decide)) rfl m1 k1 b1 .nil pass0 (pa_cons (pv 0) (pa_cons pe_int pa_nil))) pe_int)))
      (pss_cons (ps_set (i := 2) scLaw.nd rfl (Or.inl rfl) (pe_call G2 (hr.mono (by decide)) rfl m2 k2 b2 .nil pass0 (pa_cons (pv 0) (pa_cons pe_int (pa_cons (pv 1) (pa_cons (pe_op op_add pe_int (pe_op op_mod (pe_call G1 (hr.mono (by decide)) rfl m1 k1 b1 .nil pass0 (pa_cons (pv 0) (pa_cons pe_int pa_nil))) pe_int)) (pa_cons (pe_op op_mod (pe_op op_fdiv (pe_call G1 (hr.mono (by decide)) rfl m1 k1 b1 .nil pass0 (pa_cons (pv 0) (pa_cons pe_int pa_nil))) pe_int) (pe_op op_pow pe_int pe_int)) pa_nil)))))))
      (pss_cons (ps_set (i := 3) scLaw.nd rfl (Or.inl rfl) (pe_op op_mod (pe_call G1 (hr.mono (by decide)) rfl m1 k1 b1 .nil pass0 (pa_cons (pv 0) (pa_cons pe_int pa_nil))) pe_int))
      (pss_cons (ps_set (i := 4) scLaw.nd rfl (Or.inl rfl) (pe_call G3 (hr.mono (by decide)) rfl m3 k3 b3 .nil pass0 (pa_cons (pv 0) (pa_cons (pe_op op_add pe_int (pv 1)) (pa_cons (pv 2) (pa_cons (pv 3) pa_nil))))))
      (pss_cons (ps_cut (ps_if (pt_cmpR op_gt (pe_op op_mod (pe_call G1 (hr.mono (by decide)) rfl m1 k1 b1 .nil pass0 (pa_cons (pv 0) (pa_cons pe_int pa_nil))) pe_int) pe_int (nomark _)) (pss_one (ps_set (i := 4) scLaw.nd rfl (Or.inl rfl) (pe_call G4 (hr.mono (by decide)) rfl m4 k4 b4 .nil pass0 (pa_cons (pv 2) (pa_cons (pv 3) (pa_cons (pv 4) pa_nil)))))) pss_nil))
      (pss_cons (ps_set (i := 5) scLaw.nd rfl (Or.inl rfl) (pe_op op_add pe_int (pe_op op_mod (pe_op op_fdiv (pe_call G1 (hr.mono (by decide)) rfl m1 k1 b1 .nil pass0 (pa_cons (pv 0) (pa_cons pe_int pa_nil))) pe_int) pe_int)))
      (pss_cons (ps_cut (ps_if (pt_cmpR op_eq (pe_op op_mod (pe_op op_fdiv (pe_call G1 (hr.mono (by decide)) rfl m1 k1 b1 .nil pass0 (pa_cons (pv 0) (pa_cons pe_int pa_nil))) pe_int) pe_int) pe_int (nomark _)) (pss_one (ps_dput hu (pv 4) (pe_ix ix_list (pe_lst (pa_cons (pe_op op_mul (pv 1) (pv 5)) (pa_cons (pe_un un_neg (pv 5)) pa_nil))) (pe_op op_mod (pe_op op_fdiv (pe_call G1 (hr.mono (by decide)) rfl m1 k1 b1 .nil pass0 (pa_cons (pv 0) (pa_cons pe_int pa_nil))) pe_int) pe_int) (fun _ _ => rfl)) pe_non (by rfl))) pss_nil))
      (pss_cons (ps_set (i := 6) scLaw.nd rfl (Or.inl rfl) (pe_call G5 (hr.mono (by decide)) rfl m5 k5 b5 .nil pass0 (pa_cons (pv 2) (pa_cons (pv 3) (pa_cons (pv 4) pa_nil)))))
      (pss_cons (ps_set (i := 7) scLaw.nd rfl (Or.inl rfl) (pe_call G6 (hr.mono (by decide)) rfl m6 k6 b6 .nil pass0 (pa_cons (pv 2) (pa_cons (pv 3) pa_nil))))
      (pss_cons (ps_set (i := 8) scLaw.nd rfl (Or.inr rfl) (pe_call G1 (hr.mono (by decide)) rfl m1 k1 b1 .nil pass0 (pa_cons (pv 0) (pa_cons pe_int pa_nil))))
      (pss_cons (ps_set (i := 9) scLaw.nd rfl (Or.inl rfl) pe_dnewK)
      (pss_cons (ps_cut (ps_if (PW.pt (pw_and (pt_val (pv 6)) (pw_and1 (pt_cmpR op_eq (pe_op op_mod (pe_op op_fdiv (pe_call G1 (hr.mono (by decide)) rfl m1 k1 b1 .nil pass0 (pa_cons (pv 0) (pa_cons pe_int pa_nil))) pe_int) pe_int) pe_int (nomark _))))) (pss_one (ps_set (i := 9) scLaw.nd rfl (Or.inl rfl) (pe_call G7 (hr.mono (by decide)) rfl m7 k7 b7 .nil pass0 (pa_cons (pv 2) (pa_cons (pv 3) (pa_cons (pv 4) (pa_cons (pv 7) (pa_cons (pv 8) pa_nil)))))))) (pss_one (ps_frz (ps_for PassesOwn.never rfl (pi_dict (pv 4)) (pg_name (i := 10) scLaw.nd rfl (Or.inr rfl)) (pss_one (ps_dput hu (pv 9) (pv 10) (pe_lc rfl lcLaw1 (pi_range1 rfl T.range (pa_cons (pe_callB call_len_seq rfl T.len PySem.boot_len (pa_cons (pv 7) pa_nil)) pa_nil)) (fun cl C ex s H => ⟨(pg_name (i := 0) lcLaw1.nd rfl (Or.inl rfl)), pif_nil, (pe_op op_mod (pe_op op_fdiv (pe_call G8 (hr.mono (by decide)) rfl m8 k8 b8 .nil pass0 (pa_cons (pv 1) (pa_cons (pv 2) pa_nil))) (pe_op op_add (pv 0) pe_int)) pe_int)⟩)) (by rfl))))))))
      (pss_cons (ps_set (i := 11) scLaw.nd rfl (Or.inl rfl) (pe_and (pv 6) (pe_one (pe_call G9 (hr.mono (by decide)) rfl m9 k9 b9 .nil pass0 (pa_cons (pv 2) (pa_cons (pv 3) (pa_cons (pv 4) (pa_cons (pv 7) (pa_cons (pv 9) pa_nil)))))))))
      (pss_cons (ps_set (i := 12) scLaw.nd rfl (Or.inl rfl) (pe_callTy call_dictD rfl T.dict PyProof.Rows.boot_dict (pa_cons (pv 4) pa_nil)))
      (pss_cons (ps_set (i := 13) scLaw.nd rfl (Or.inl rfl) pe_dnewK)
      (pss_cons (ps_frz (ps_for PassesOwn.never rfl (pi_dict (pv 9)) (pg_name (i := 10) scLaw.nd rfl (Or.inr rfl)) (pss_one (ps_dput hu (pv 13) (pv 10) (pe_callTy call_list_of rfl T.list PyProof.Rows.boot_list (pa_cons (pe_dget hu (pv 9) (pv 10) (fun _ _ => rfl)) pa_nil)) (by rfl)))))
      (pss_cons (ps_set (i := 14) scLaw.nd rfl (Or.inl rfl) (pe_call G10 (hr.mono (by decide)) rfl m10 k10 b10 .nil pass0 (pa_cons (pv 2) (pa_cons (pv 3) (pa_cons (pv 12) (pa_cons (pv 13) pa_nil))))))
      (pss_cons (ps_if (PW.pt (pw_or (pt_not (pt_val (pe_callB call_isinst rfl T.isi PyProof.Rows.boot_isinstance (pa_cons (pv 14) (pa_cons (pe_type rfl T.bool PyProof.Rows.boot_bool) pa_nil))))) (pw_or (pt_cmpR op_ne (pv 14) (pv 11) (nomark _)) (pw_or (pt_cmpR (op_neDict hu64) (pv 12) (pv 4) (nomark _)) (pw_or1 (pt_cmpR (op_neDict hu64) (pv 13) (pv 9) (nomark _))))))) (pss_one (ps_ret pe_bl)) pss_nil)
      (pss_one (ps_ret (pe_or (pe_not (pv 11)) (pe_one (pe_not (pe_call G11 (hr.mono (by decide)) rfl m11 k11 b11 .nil pass0 (pa_cons (pv 2) (pa_cons (pv 3) (pa_cons (pv 4) pa_nil)))))))))))))))))))))))))), ?_⟩
    obtain ⟨m, hm, m0, m12⟩ : ∃ m : Nat, (1 + ns.getD 0 0 % 10 : Int) = m ∧ 0 < m ∧ m ≤ 10 := ⟨(1 + ns.getD 0 0 % 10).toNat, by omega, by omega, by omega⟩
    refine ⟨_, rfl, a, ns, 0, rfl, hS, _, _, rfl, rfl, (by show (0 : Int) < 10; decide), _, _, rfl, rfl, ?_⟩
    refine ⟨_, rfl, _, rfl, _, rfl, a, ns, 3, rfl, hS, _, _, rfl, rfl, (by show (0 : Int) < 6; decide), _, _, rfl, rfl, ?_⟩
    refine ⟨_, rfl, a, ns, 3, rfl, hS, _, _, rfl, rfl, ⟨by decide, by decide⟩, _, _, rfl, rfl, ⟨by decide, by decide, by decide⟩, _, _, rfl, rfl, (by show (0 : Int) < 10 ^ (20 : Int).toNat; decide), ?_⟩
    refine ⟨a, ns, 5, m, 1 + ns.getD 3 0 % 6, ns.getD 3 0 / 6 % 10 ^ (20 : Int).toNat, (by rw [← hm]; rfl), hS, m0, by omega, by omega, by omega, fun v H1 g hl hw ig sm1 => ?_⟩
    subst hl
    obtain ⟨ga, vs, rfl, hga, hp⟩ := id ig
    have hlv := paired_len hp
    have hgw : ∀ p ∈ g, p.2.2.length < 1000 := fun p hp' => by have := wf_len (hw p hp'); omega
    refine ⟨_, rfl, a, ns, 1, rfl, sm1.seq hS, _, _, rfl, rfl, (by show (0 : Int) < 2; decide), ?_⟩
    obtain ⟨hd, hhd⟩ : ∃ z, ns.getD 1 0 % 2 = z := ⟨_, rfl⟩
    -- plan
    refine ⟨_, rfl, _, rfl, _, _, rfl, rfl, _, rfl, _, rfl, a, ns, 5 + g.length, .ref ga, g, hd, (by rw [← hhd]; simp [← hm]), sm1.seq hS, ig, hw, by omega, fun l pl H2 hl hl2 sm2 pk hin => ?_⟩
    have hlen0 := pl_len pk.nd hin
    refine ⟨fun σ' H' => ∃ (l : Addr) (pl : Plan), σ' = [some (.ref a), some (.int g.length), some (.ref ga), some (.int hd), some (.ref l), none, none, none, none, none, none, none, none, none, none] ∧ Same H1 H' ∧ H1 l = none ∧ H' l = some (.dK (kvP pl)) ∧ PlOk g hd pl ∧ ∀ kv ∈ pl, 0 ≤ kv.1 ∧ kv.1 < g.length, ?_, ?_⟩
    · refine ⟨_, rfl, a, ns, 2, rfl, (sm1.trans sm2).seq hS, _, _, rfl, rfl, (by show (0 : Int) < 6; decide), _, _, rfl, rfl, _, rfl, ?_⟩
      refine ite2 (fun _ => ?_) (fun _ => ?_)
      · refine ⟨_, rfl, _, rfl, _, rfl, .ref ga, g, hd, l, pl, (by rw [← hhd]; rfl), ig.tk sm2.tk, hw, by omega, .inl hl2, pk, hin, fun l' pl' H3 hl' hl3 sm3 pk3 sub3 => ?_⟩
        exact ⟨l', pl', by rw [← hm, ← hhd]; rfl, sm2.trans sm3, sm2.free hl', hl3, pk3, fun kv hm => hin kv (sub3 kv hm)⟩
      · exact ⟨l, pl, by rw [← hm, ← hhd]; rfl, sm2, hl, hl2, pk, hin⟩
    clear hlen0 hin pk sm2 hl2 hl
    rintro σ H3 ⟨l, pl, rfl, sm3, hl, hl3, pk, hin⟩
    have hlen0 := pl_len pk.nd hin
    -- far
    refine ⟨_, rfl, a, ns, 2, rfl, (sm1.trans sm3).seq hS, _, _, rfl, rfl, ⟨by decide, by decide⟩, _, _, rfl, rfl, (by show (0 : Int) < 40; decide), _, _, rfl, rfl, ?_⟩
    obtain ⟨far, hfar⟩ : ∃ z, 1 + ns.getD 2 0 / 192 % 40 = z := ⟨_, rfl⟩
    have f0 : 1 ≤ far := by rw [← hfar]; have := Int.emod_nonneg (ns.getD 2 0 / 192) (show (40 : Int) ≠ 0 by decide); omega
    have f1 : far ≤ 40 := by rw [← hfar]; have := Int.emod_lt_of_pos (ns.getD 2 0 / 192) (show (0 : Int) < 40 by decide); omega
    refine ⟨fun σ' H' => ∃ (pl : Plan), σ' = [some (.ref a), some (.int g.length), some (.ref ga), some (.int hd), some (.ref l), some (.int far), none, none, none, none, none, none, none, none, none] ∧ Same H1 H' ∧ H' l = some (.dK (kvP pl)) ∧ PlOk g hd pl ∧ pl.length ≤ 13, ?_, ?_⟩
    · refine ⟨_, rfl, a, ns, 2, rfl, (sm1.trans sm3).seq hS, _, _, rfl, rfl, ⟨by decide, by decide⟩, _, _, rfl, rfl, (by show (0 : Int) < 8; decide), rfl, _, rfl, ?_⟩
      refine ite2 (fun h0 => ?_) (fun h0 => ?_)
      · refine ⟨_, rfl, _, rfl, _, rfl, _, _, rfl, rfl, .inl ⟨by show -(2 ^ 64) < (g.length : Int); omega, by show (g.length : Int) < 2 ^ 64; omega⟩, _, rfl, _, rfl, by show 2 ≤ sizeLine; decide, fun L hL => ?_⟩
        rw [hfar]
        have sm4 : Same H3 (upd H3 L (.lst [.int ((g.length : Int) * far), .int (-far)])) := Same.upd hL
        have hL4 : upd H3 L (.lst [.int ((g.length : Int) * far), .int (-far)]) L = some (.lst [.int ((g.length : Int) * far), .int (-far)]) := upd_same
        generalize upd H3 L (.lst [.int ((g.length : Int) * far), .int (-far)]) = H4 at sm4 hL4
        have b0 : 0 ≤ ns.getD 2 0 / 96 % 2 := Int.emod_nonneg _ (by decide)
        have b1 : ns.getD 2 0 / 96 % 2 < 2 := Int.emod_lt_of_pos _ (by decide)
        obtain ⟨k, hk, hk2⟩ := two_at (x := (g.length : Int) * far) (y := -far) _ b0 b1
        refine ⟨_, rfl, a, ns, 2, rfl, (sm1.trans (sm3.trans sm4)).seq hS, _, _, rfl, rfl, ⟨by decide, by decide⟩, _, _, rfl, rfl, (by show (0 : Int) < 2; decide), L, _, _, _, rfl, rfl, SqL.of hL4, hk, ?_⟩
        have hl4 := sm4 l _ hl3
        refine ⟨l, _, rfl, dput hl4 (by omega) k none, ?_⟩
        refine ⟨putP pl k none, by rw [← hfar]; rfl, (sm3.trans sm4).upd' hl, upd_same, pk.put pk.nd (fun q hq _ => hq) (fun p h1 hp' _ => ?_), by have := putP_len pl k none; omega⟩
        have hlt := get_lt hp'
        rcases hk2 with z | z
        · have : (g.length : Int) * 1 ≤ (g.length : Int) * far := Int.mul_le_mul_of_nonneg_left f0 (by omega)
          omega
        · omega
      · exact ⟨pl, by rw [← hfar]; rfl, sm3, hl3, pk, by omega⟩
    clear hlen0 hin pk sm3 hl3
    rintro σ H3 ⟨pl, rfl, sm3, hl3, pk, hlen0⟩
    -- kept
    refine ⟨_, rfl, _, rfl, _, rfl, .ref ga, g, hd, l, pl, rfl, ig.tk sm3.tk, by omega, hgw, .inl hl3, pk, fun H4 sm4 => ?_⟩
    have smH4 : Same H1 H4 := sm3.trans sm4
    -- crowns
    refine ⟨_, rfl, _, rfl, .ref ga, g, hd, rfl, ig.tk smH4.tk, by omega, fun CR nz H5 hCR hCR5 frd sm5 => ?_⟩
    have smH5 : Same H1 H5 := smH4.trans sm5
    have hnsl := frd.len
    -- cell, sheet
    refine ⟨_, rfl, a, ns, 4, rfl, (sm1.trans smH5).seq hS, ?_⟩
    refine fun S0 hS0 => ?_
    have hl5 := sm5 l _ (sm4 l _ hl3)
    have sm6 : Same H5 (upd H5 S0 (.dK [])) := Same.upd hS0
    have hS6 : upd H5 S0 (.dK []) S0 = some (.dK []) := upd_same
    generalize upd H5 S0 (.dK []) = H6 at sm6 hS6
    have hl6 := sm6 l _ hl5
    have hCR6 := sm6 CR _ hCR5
    have smH6 : Same H1 H6 := smH5.trans sm6
    refine ⟨fun σ' H' => ∃ (SH : Addr) (kvs : List (Key × V)) (F : Int → List Int) (s10 : Option V), σ' = [some (.ref a), some (.int g.length), some (.ref ga), some (.int hd), some (.ref l), some (.int far), some (.bl (keepsB g hd pl)), some (.ref CR), some (.int (ns.getD 4 0)), some (.ref SH), s10, none, none, none, none] ∧ Same H5 H' ∧ H5 SH = none ∧ H' SH = some (.dK kvs) ∧ IsSheet H' kvs pl F ∧ ∀ k ∈ pl.map (·.1), (F k).length = nz.length, ?_, ?_⟩
    · have e6 : H6 l = H5 l := by rw [hl6, hl5]
      have nSl : S0 ≠ l := fun z => by rw [z, hl5] at hS0; cases hS0
      have nCl : CR ≠ l := fun z => by rw [z, hl5] at hCR5; cases hCR5
      refine ⟨_, rfl, keepsB g hd pl, rfl, ?_⟩
      cases kb : keepsB g hd pl
      · refine iteF (iteF ?_)
        refine ⟨l, kvP pl, .inl hl6, fun o => ?_⟩
        refine ⟨_, rfl, l, o, _, rfl, fz_at, for_dict (fun i σ H8 => (∃ s10, σ = [some (.ref a), some (.int g.length), some (.ref ga), some (.int hd), some (.ref l), some (.int far), some (.bl false), some (.ref CR), some (.int (ns.getD 4 0)), some (.ref S0), s10, none, none, none, none]) ∧ Same (fz H5 l o (kvP pl)) H8 ∧ ∃ (kvs : List (Key × V)) (F : Int → List Int), H8 S0 = some (.dK kvs) ∧ IsSheet H8 kvs (pl.take i) F ∧ ∀ k ∈ (pl.take i).map (·.1), (F k).length = nz.length) ?_ ?_ ?_ ?_⟩
        · exact ⟨⟨_, rfl⟩, same_fz sm6 e6, [], fun _ => [], by rw [fz_ne nSl]; exact hS6, .nil, fun k hk => by simp at hk⟩
        · rintro i σ H8 _ ⟨_, sm8, _⟩
          exact back_fz sm8
        · rintro i kk vv σ H8 hi ⟨⟨s10, rfl⟩, sm8, kvs, F, hS8, sh8, hF8⟩
          obtain ⟨j, ob, rfl, rfl, hj⟩ := kvP_get hi
          have hCR8 : H8 CR = some (.lst (nz.map V.int)) := sm8 CR _ (by rw [fz_ne nCl]; exact hCR5)
          have hS0f : fz H5 l o (kvP pl) S0 = none := by rw [fz_ne nSl]; exact hS0
          have hnew : valV kvs (Sum.inl j) = none := sh8.none (not_take pk.nd hj)
          have hkl : kvs.length ≤ pl.length := by
            have := sh8.len
            rw [List.length_take] at this
            omega
          have fin : ∀ (R : Addr) (xs : List Int) (H9 : Hp), H8 R = none → H9 R = some (.lst (xs.map V.int)) → Same H8 H9 → xs.length = nz.length → DPut H9 S0 (.int j) (.ref R) (upd H9 S0 (.dK (kvs ++ [(Sum.inl j, V.ref R)]))) ∧ Same (fz H5 l o (kvP pl)) (upd H9 S0 (.dK (kvs ++ [(Sum.inl j, V.ref R)]))) ∧ ∃ (kvs' : List (Key × V)) (F : Int → List Int), upd H9 S0 (.dK (kvs ++ [(Sum.inl j, V.ref R)])) S0 = some (.dK kvs') ∧ IsSheet (upd H9 S0 (.dK (kvs ++ [(Sum.inl j, V.ref R)]))) kvs' (pl.take (i + 1)) F ∧ ∀ k ∈ (pl.take (i + 1)).map (·.1), (F k).length = nz.length := fun R xs H9 hR hR9 sm9 hxs => by
            have nRS : R ≠ S0 := fun z => by rw [z, hS8] at hR; cases hR
            have hS9 := sm9 S0 _ hS8
            have dp : DPut H9 S0 (.int j) (.ref R) (upd H9 S0 (.dK (putK kvs (Sum.inl j) (.ref R)))) := .inl ⟨kvs, Sum.inl j, hS9, rfl, by rw [sizeLine_eq]; omega, rfl⟩
            rw [putK_new _ hnew] at dp
            obtain ⟨F', eF, eF'⟩ : ∃ F' : Int → List Int, F' j = xs ∧ ∀ k, k ≠ j → F' k = F k := ⟨fun k => if k = j then xs else F k, if_pos rfl, fun k e => if_neg e⟩
            refine ⟨dp, (sm8.trans sm9).upd' hS0f, kvs ++ [(Sum.inl j, V.ref R)], F', upd_same, ?_, fun k hk => ?_⟩
            · have tr : ∀ r u, H8 r = some (.lst u) → upd H9 S0 (.dK (kvs ++ [(Sum.inl j, V.ref R)])) r = some (.lst u) := fun r u e => by
                rw [upd_ne (fun z => by rw [z, hS8] at e; cases e)]
                exact sm9 r _ e
              rw [List.take_add_one, hj]
              refine Paired.snoc ((sh8.tr tr).congr fun k hk => ?_) ⟨rfl, R, rfl, by rw [upd_ne nRS, hR9, eF]⟩
              exact (eF' k (fun e => not_take pk.nd hj (by rw [← e]; exact hk))).symm
            · by_cases e : k = j
              · rw [e, eF]; exact hxs
              · rw [eF' k e]
                rw [List.take_add_one, hj, List.map_append] at hk
                rcases List.mem_append.mp hk with z | z
                · exact hF8 k z
                · exact absurd (by simpa using z) e
          refine ⟨_, rfl, CR, _, rfl, .inl (SqL.of hCR8), _, rfl, by omega, (by rw [List.length_map]; omega), fun D hD => lc_range (n := (((nz.map V.int).length : Nat) : Int).toNat) (fun i σ H9 => (∃ s0, σ = [s0, some (.int (ns.getD 4 0)), some (.int j)]) ∧ Same H8 H9 ∧ ∃ xs : List Int, H9 D = some (.lst (xs.map V.int)) ∧ xs.length = i) ?_ ?_ ?_⟩
          · exact ⟨⟨none, rfl⟩, Same.upd hD, [], upd_same, rfl⟩
          · rintro n σ H9 hn ⟨⟨s0, rfl⟩, sm9, xs, hD9, hxs⟩
            rw [Int.toNat_natCast, List.length_map] at hn
            have e0 : (0 : Int) + (n : Int) = ((n : Nat) : Int) := by omega
            unfold gName
            rw [e0]
            refine iteT ⟨_, rfl, _, rfl, ns.getD 4 0, j, rfl, fun z => ?_⟩
            refine ⟨_, rfl, _, _, rfl, rfl, _, _, rfl, rfl, ⟨(by omega), (by omega)⟩, _, _, rfl, rfl, (by show (0 : Int) < 1001; decide), xs.map V.int, hD9, (by rw [List.length_map, sizeLine_eq]; omega), ⟨_, rfl⟩, sm9.upd' hD, xs ++ [z / ((n : Int) + 1) % 1001], ?_, ?_⟩
            · rw [upd_same, List.map_append]
              rfl
            · rw [List.length_append, hxs]
              rfl
          · rintro σ H9 ⟨_, sm9, xs, hD9, hxs⟩
            rw [Int.toNat_natCast, List.length_map] at hxs
            obtain ⟨dp, r1, r2⟩ := fin D xs H9 hD hD9 sm9 hxs
            exact ⟨_, rfl, _, rfl, S0, _, rfl, dp, ⟨_, rfl⟩, r1, r2⟩
        · rintro σ H8 ⟨⟨s10, rfl⟩, sm8, kvs, F, hS8, sh8, hF8⟩
          rw [kvP_len, List.take_length] at sh8 hF8
          refine ⟨back_fz sm8, ?_⟩
          rw [back_cg e6]
          exact ⟨S0, kvs, F, s10, rfl, same_back sm8, hS0, by rw [back_ne nSl]; exact hS8, sh8.tr (fun r u e => by rw [back_ne (fun z => by rw [z, back_fz sm8] at e; cases e)]; exact e), hF8⟩

      · refine iteT ?_
        refine ⟨_, rfl, a, ns, 2, rfl, (sm1.trans smH6).seq hS, _, _, rfl, rfl, ⟨by decide, by decide⟩, _, _, rfl, rfl, (by show (0 : Int) < 2; decide), rfl, _, rfl, ?_⟩
        refine ite2 (fun _ => ?_) (fun _ => ?_)
        · refine ⟨_, rfl, _, rfl, _, rfl, _, rfl, _, rfl, .ref ga, g, hd, l, pl, CR, nz, ns.getD 4 0, rfl, ig.tk smH6.tk, hw, by omega, hl6, pk, kb, hCR6, by omega, fun SH kvs F H7 hSH hSH7 sh7 hF7 sm7 => ?_⟩
          exact ⟨SH, kvs, F, _, rfl, sm6.trans sm7, sm6.free hSH, hSH7, sh7, hF7⟩
        · refine ⟨l, kvP pl, .inl hl6, fun o => ?_⟩
          refine ⟨_, rfl, l, o, _, rfl, fz_at, for_dict (fun i σ H8 => (∃ s10, σ = [some (.ref a), some (.int g.length), some (.ref ga), some (.int hd), some (.ref l), some (.int far), some (.bl true), some (.ref CR), some (.int (ns.getD 4 0)), some (.ref S0), s10, none, none, none, none]) ∧ Same (fz H5 l o (kvP pl)) H8 ∧ ∃ (kvs : List (Key × V)) (F : Int → List Int), H8 S0 = some (.dK kvs) ∧ IsSheet H8 kvs (pl.take i) F ∧ ∀ k ∈ (pl.take i).map (·.1), (F k).length = nz.length) ?_ ?_ ?_ ?_⟩
          · exact ⟨⟨_, rfl⟩, same_fz sm6 e6, [], fun _ => [], by rw [fz_ne nSl]; exact hS6, .nil, fun k hk => by simp at hk⟩
          · rintro i σ H8 _ ⟨_, sm8, _⟩
            exact back_fz sm8
          · rintro i kk vv σ H8 hi ⟨⟨s10, rfl⟩, sm8, kvs, F, hS8, sh8, hF8⟩
            obtain ⟨j, ob, rfl, rfl, hj⟩ := kvP_get hi
            have hCR8 : H8 CR = some (.lst (nz.map V.int)) := sm8 CR _ (by rw [fz_ne nCl]; exact hCR5)
            have hS0f : fz H5 l o (kvP pl) S0 = none := by rw [fz_ne nSl]; exact hS0
            have hnew : valV kvs (Sum.inl j) = none := sh8.none (not_take pk.nd hj)
            have hkl : kvs.length ≤ pl.length := by
              have := sh8.len
              rw [List.length_take] at this
              omega
            have fin : ∀ (R : Addr) (xs : List Int) (H9 : Hp), H8 R = none → H9 R = some (.lst (xs.map V.int)) → Same H8 H9 → xs.length = nz.length → DPut H9 S0 (.int j) (.ref R) (upd H9 S0 (.dK (kvs ++ [(Sum.inl j, V.ref R)]))) ∧ Same (fz H5 l o (kvP pl)) (upd H9 S0 (.dK (kvs ++ [(Sum.inl j, V.ref R)]))) ∧ ∃ (kvs' : List (Key × V)) (F : Int → List Int), upd H9 S0 (.dK (kvs ++ [(Sum.inl j, V.ref R)])) S0 = some (.dK kvs') ∧ IsSheet (upd H9 S0 (.dK (kvs ++ [(Sum.inl j, V.ref R)]))) kvs' (pl.take (i + 1)) F ∧ ∀ k ∈ (pl.take (i + 1)).map (·.1), (F k).length = nz.length := fun R xs H9 hR hR9 sm9 hxs => by
              have nRS : R ≠ S0 := fun z => by rw [z, hS8] at hR; cases hR
              have hS9 := sm9 S0 _ hS8
              have dp : DPut H9 S0 (.int j) (.ref R) (upd H9 S0 (.dK (putK kvs (Sum.inl j) (.ref R)))) := .inl ⟨kvs, Sum.inl j, hS9, rfl, by rw [sizeLine_eq]; omega, rfl⟩
              rw [putK_new _ hnew] at dp
              obtain ⟨F', eF, eF'⟩ : ∃ F' : Int → List Int, F' j = xs ∧ ∀ k, k ≠ j → F' k = F k := ⟨fun k => if k = j then xs else F k, if_pos rfl, fun k e => if_neg e⟩
              refine ⟨dp, (sm8.trans sm9).upd' hS0f, kvs ++ [(Sum.inl j, V.ref R)], F', upd_same, ?_, fun k hk => ?_⟩
              · have tr : ∀ r u, H8 r = some (.lst u) → upd H9 S0 (.dK (kvs ++ [(Sum.inl j, V.ref R)])) r = some (.lst u) := fun r u e => by
                  rw [upd_ne (fun z => by rw [z, hS8] at e; cases e)]
                  exact sm9 r _ e
                rw [List.take_add_one, hj]
                refine Paired.snoc ((sh8.tr tr).congr fun k hk => ?_) ⟨rfl, R, rfl, by rw [upd_ne nRS, hR9, eF]⟩
                exact (eF' k (fun e => not_take pk.nd hj (by rw [← e]; exact hk))).symm
              · by_cases e : k = j
                · rw [e, eF]; exact hxs
                · rw [eF' k e]
                  rw [List.take_add_one, hj, List.map_append] at hk
                  rcases List.mem_append.mp hk with z | z
                  · exact hF8 k z
                  · exact absurd (by simpa using z) e
            refine ⟨_, rfl, CR, _, rfl, .inl (SqL.of hCR8), _, rfl, by omega, (by rw [List.length_map]; omega), fun D hD => lc_range (n := (((nz.map V.int).length : Nat) : Int).toNat) (fun i σ H9 => (∃ s0, σ = [s0, some (.int (ns.getD 4 0)), some (.int j)]) ∧ Same H8 H9 ∧ ∃ xs : List Int, H9 D = some (.lst (xs.map V.int)) ∧ xs.length = i) ?_ ?_ ?_⟩
            · exact ⟨⟨none, rfl⟩, Same.upd hD, [], upd_same, rfl⟩
            · rintro n σ H9 hn ⟨⟨s0, rfl⟩, sm9, xs, hD9, hxs⟩
              rw [Int.toNat_natCast, List.length_map] at hn
              have e0 : (0 : Int) + (n : Int) = ((n : Nat) : Int) := by omega
              unfold gName
              rw [e0]
              refine iteT ⟨_, rfl, _, rfl, ns.getD 4 0, j, rfl, fun z => ?_⟩
              refine ⟨_, rfl, _, _, rfl, rfl, _, _, rfl, rfl, ⟨(by omega), (by omega)⟩, _, _, rfl, rfl, (by show (0 : Int) < 1001; decide), xs.map V.int, hD9, (by rw [List.length_map, sizeLine_eq]; omega), ⟨_, rfl⟩, sm9.upd' hD, xs ++ [z / ((n : Int) + 1) % 1001], ?_, ?_⟩
              · rw [upd_same, List.map_append]
                rfl
              · rw [List.length_append, hxs]
                rfl
            · rintro σ H9 ⟨_, sm9, xs, hD9, hxs⟩
              rw [Int.toNat_natCast, List.length_map] at hxs
              obtain ⟨dp, r1, r2⟩ := fin D xs H9 hD hD9 sm9 hxs
              exact ⟨_, rfl, _, rfl, S0, _, rfl, dp, ⟨_, rfl⟩, r1, r2⟩
          · rintro σ H8 ⟨⟨s10, rfl⟩, sm8, kvs, F, hS8, sh8, hF8⟩
            rw [kvP_len, List.take_length] at sh8 hF8
            refine ⟨back_fz sm8, ?_⟩
            rw [back_cg e6]
            exact ⟨S0, kvs, F, s10, rfl, same_back sm8, hS0, by rw [back_ne nSl]; exact hS8, sh8.tr (fun r u e => by rw [back_ne (fun z => by rw [z, back_fz sm8] at e; cases e)]; exact e), hF8⟩
    · rintro σ7 H7 ⟨SH, kvs, F, s10, rfl, sm7, hSH0, hSH7, sh7, hF7⟩
      have hl7 := sm7 l _ hl5
      have hCR7 := sm7 CR _ hCR5
      have smH7 : Same H1 H7 := smH5.trans sm7
      have nSl : SH ≠ l := fun z => by rw [z, hl5] at hSH0; cases hSH0
      refine ⟨_, rfl, keepsB g hd pl, rfl, ?_⟩
      cases kb : keepsB g hd pl
      · refine iteF ?_
        have sm8 : Same H7 H7 := Same.refl _
        have hl8 := hl7
        have hSH8 := hSH7
        have sh8 := sh7
        refine ⟨_, rfl, l, _, rfl, .inl hl8, fun L hL => ?_⟩
        have smL : Same H7 (upd H7 L (.dK (kvP pl))) := Same.upd hL
        have hL9 : upd H7 L (.dK (kvP pl)) L = some (.dK (kvP pl)) := upd_same
        generalize upd H7 L (.dK (kvP pl)) = H9 at smL hL9
        refine fun CP hCP => ?_
        have smC : Same H9 (upd H9 CP (.dK [])) := Same.upd hCP
        have hCP0 : upd H9 CP (.dK []) CP = some (.dK []) := upd_same
        generalize upd H9 CP (.dK []) = H10 at smC hCP0
        have hSH9 := smL SH _ hSH7
        have hSH10 := smC SH _ hSH9
        have e10 : H10 SH = H9 SH := by rw [hSH10, hSH9]
        have nCS : CP ≠ SH := fun z => by rw [z, hSH9] at hCP; cases hCP
        have nLS : L ≠ SH := fun z => by rw [z, hSH7] at hL; cases hL
        have nlS : l ≠ SH := Ne.symm nSl
        have nCL : CP ≠ L := fun z => by rw [z, hL9] at hCP; cases hCP
        have sh9 : IsSheet H9 kvs pl F := (sh8.tr fun r u e => smL r _ e)
        refine ⟨SH, kvs, .inl hSH10, fun o => ?_⟩
        have shf : ∀ H11, Same (fz H9 SH o kvs) H11 → IsSheet H11 kvs pl F := fun H11 sm => sh9.tr fun r u e => sm r _ (by rw [fz_ne (fun z => by rw [z, hSH9] at e; cases e)]; exact e)
        refine ⟨_, rfl, SH, o, _, rfl, fz_at, for_dict (fun i σ H11 => (∃ s10, σ = [some (.ref a), some (.int g.length), some (.ref ga), some (.int hd), some (.ref l), some (.int far), some (.bl false), some (.ref CR), some (.int (ns.getD 4 0)), some (.ref SH), s10, some (.bl false), some (.ref L), some (.ref CP), none]) ∧ Same (fz H9 SH o kvs) H11 ∧ ∃ kvs2 : List (Key × V), H11 CP = some (.dK kvs2) ∧ IsSheet H11 kvs2 (pl.take i) F) ?_ ?_ ?_ ?_⟩
        · exact ⟨⟨_, rfl⟩, same_fz smC e10, [], by rw [fz_ne nCS]; exact hCP0, .nil⟩
        · rintro i σ H11 _ ⟨_, sm11, _⟩
          exact back_fz sm11
        · rintro i kk vv σ H11 hi ⟨⟨t10, rfl⟩, sm11, kvs2, hC11, sh11⟩
          obtain ⟨p, _, hj, rfl, _, _⟩ := (shf H11 sm11).get hi
          obtain ⟨r, hrv, hR⟩ := (shf H11 sm11).val (List.mem_map.mpr ⟨p, List.mem_of_getElem? hj, rfl⟩)
          have hnew : valV kvs2 (Sum.inl p.1) = none := sh11.none (not_take pk.nd hj)
          have hkl : kvs2.length ≤ pl.length := by
            have := sh11.len
            rw [List.length_take] at this
            omega
          have hget : DGet H11 SH (kV (Sum.inl p.1)) (some (.ref r)) := .inl ⟨kvs, Sum.inl p.1, .inr ⟨o, back_fz sm11⟩, rfl, hrv.symm⟩
          unfold gName
          refine ⟨_, rfl, _, rfl, SH, _, rfl, hget, r, _, rfl, .inl (SqL.of hR), fun R hR0 => ?_⟩
          have nRC : R ≠ CP := fun z => by rw [z, hC11] at hR0; cases hR0
          refine ⟨_, rfl, _, rfl, CP, _, rfl, .inl ⟨kvs2, Sum.inl p.1, by rw [upd_ne (Ne.symm nRC)]; exact hC11, rfl, by rw [sizeLine_eq]; omega, rfl⟩, ?_⟩
          rw [putK_new _ hnew]
          have tr : ∀ r u, H11 r = some (.lst u) → upd (upd H11 R (.lst ((F p.1).map V.int))) CP (.dK (kvs2 ++ [(Sum.inl p.1, V.ref R)])) r = some (.lst u) := fun r u e => by
            rw [upd_ne (fun z => by rw [z, hC11] at e; cases e), upd_ne (ne_of_none e hR0)]
            exact e
          refine ⟨⟨_, rfl⟩, (sm11.upd' (sm11.free hR0)).upd' (by rw [fz_ne nCS]; exact hCP), _, upd_same, ?_⟩
          rw [List.take_add_one, hj]
          exact Paired.snoc (sh11.tr tr) ⟨rfl, R, rfl, by rw [upd_ne nRC, upd_same]⟩
        · rintro σ H11 ⟨⟨t10, rfl⟩, sm11, kvs2, hC11, sh11⟩
          refine ⟨back_fz sm11, ?_⟩
          rw [back_cg e10]
          have sm12 := same_back sm11
          have sh12 : IsSheet (back H9 SH H11) kvs2 pl F := by
            rw [show kvs.length = pl.length from sh7.len, List.take_length] at sh11
            exact sh11.tr (fun r u e => by rw [back_ne (fun z => by rw [z, back_fz sm11] at e; cases e)]; exact e)
          have hC12 : back H9 SH H11 CP = some (.dK kvs2) := by rw [back_ne nCS]; exact hC11
          generalize back H9 SH H11 = H12 at sm12 sh12 hC12
          have smH12 : Same H7 H12 := sm8.trans (smL.trans sm12)
          have hL12 := sm12 L _ hL9
          have hl12 := smH12 l _ hl7
          have hSH12 := smH12 SH _ hSH7
          refine ⟨_, rfl, _, rfl, _, rfl, _, rfl, .ref ga, g, hd, L, pl, CP, kvs2, F, nz, rfl, ig.tk (smH7.trans smH12).tk, hw, by omega, hL12, by omega, pk, hC12, Ne.symm nCL, sh12, frd, hF7, fun H13 sm13 => ?_⟩
          rw [kb]
          have smA := smH12.trans sm13
          refine ⟨_, rfl, _, _, _, true, rfl, .bl _, rfl, _, rfl, iteF ?_⟩
          refine ⟨_, rfl, _, rfl, rfl, _, rfl, iteNS rfl ?_⟩
          refine ⟨_, rfl, _, rfl, L, l, _, _, rfl, rfl, .inl (sm13 L _ hL12), .inl (smA l _ hl7), same_kvP _ _ pl, _, rfl, iteF ?_⟩
          refine ⟨_, rfl, _, rfl, CP, SH, _, _, rfl, rfl, .inl (sm13 CP _ hC12), .inl (smA SH _ hSH7), same_sheets (sh12.tr fun r u e => sm13 r _ e) (sh7.tr fun r u e => smA r _ e), _, rfl, iteF ?_⟩
          exact ⟨_, rfl, _, rfl, _, rfl, iteT (q _)⟩
      · refine iteT ?_
        refine ⟨_, rfl, _, rfl, _, rfl, _, rfl, _, rfl, .ref ga, g, hd, l, pl, SH, kvs, F, CR, nz, rfl, ig.tk smH7.tk, hw, by omega, hl7, pk, kb, hSH7, nSl, sh7, hF7, hCR7, by omega, fun H8 sm8 => ?_⟩
        have hl8 := sm8 l _ hl7
        have hSH8 := sm8 SH _ hSH7
        have sh8 := sh7.tr fun r u e => sm8 r _ e
        refine ⟨_, rfl, l, _, rfl, .inl hl8, fun L hL => ?_⟩
        have smL : Same H8 (upd H8 L (.dK (kvP pl))) := Same.upd hL
        have hL9 : upd H8 L (.dK (kvP pl)) L = some (.dK (kvP pl)) := upd_same
        generalize upd H8 L (.dK (kvP pl)) = H9 at smL hL9
        refine fun CP hCP => ?_
        have smC : Same H9 (upd H9 CP (.dK [])) := Same.upd hCP
        have hCP0 : upd H9 CP (.dK []) CP = some (.dK []) := upd_same
        generalize upd H9 CP (.dK []) = H10 at smC hCP0
        have hSH9 := smL SH _ hSH8
        have hSH10 := smC SH _ hSH9
        have e10 : H10 SH = H9 SH := by rw [hSH10, hSH9]
        have nCS : CP ≠ SH := fun z => by rw [z, hSH9] at hCP; cases hCP
        have nLS : L ≠ SH := fun z => by rw [z, hSH8] at hL; cases hL
        have nlS : l ≠ SH := Ne.symm nSl
        have nCL : CP ≠ L := fun z => by rw [z, hL9] at hCP; cases hCP
        have sh9 : IsSheet H9 kvs pl F := (sh8.tr fun r u e => smL r _ e)
        refine ⟨SH, kvs, .inl hSH10, fun o => ?_⟩
        have shf : ∀ H11, Same (fz H9 SH o kvs) H11 → IsSheet H11 kvs pl F := fun H11 sm => sh9.tr fun r u e => sm r _ (by rw [fz_ne (fun z => by rw [z, hSH9] at e; cases e)]; exact e)
        refine ⟨_, rfl, SH, o, _, rfl, fz_at, for_dict (fun i σ H11 => (∃ s10, σ = [some (.ref a), some (.int g.length), some (.ref ga), some (.int hd), some (.ref l), some (.int far), some (.bl true), some (.ref CR), some (.int (ns.getD 4 0)), some (.ref SH), s10, some (.bl (shownB g hd pl nz F)), some (.ref L), some (.ref CP), none]) ∧ Same (fz H9 SH o kvs) H11 ∧ ∃ kvs2 : List (Key × V), H11 CP = some (.dK kvs2) ∧ IsSheet H11 kvs2 (pl.take i) F) ?_ ?_ ?_ ?_⟩
        · exact ⟨⟨_, rfl⟩, same_fz smC e10, [], by rw [fz_ne nCS]; exact hCP0, .nil⟩
        · rintro i σ H11 _ ⟨_, sm11, _⟩
          exact back_fz sm11
        · rintro i kk vv σ H11 hi ⟨⟨t10, rfl⟩, sm11, kvs2, hC11, sh11⟩
          obtain ⟨p, _, hj, rfl, _, _⟩ := (shf H11 sm11).get hi
          obtain ⟨r, hrv, hR⟩ := (shf H11 sm11).val (List.mem_map.mpr ⟨p, List.mem_of_getElem? hj, rfl⟩)
          have hnew : valV kvs2 (Sum.inl p.1) = none := sh11.none (not_take pk.nd hj)
          have hkl : kvs2.length ≤ pl.length := by
            have := sh11.len
            rw [List.length_take] at this
            omega
          have hget : DGet H11 SH (kV (Sum.inl p.1)) (some (.ref r)) := .inl ⟨kvs, Sum.inl p.1, .inr ⟨o, back_fz sm11⟩, rfl, hrv.symm⟩
          unfold gName
          refine ⟨_, rfl, _, rfl, SH, _, rfl, hget, r, _, rfl, .inl (SqL.of hR), fun R hR0 => ?_⟩
          have nRC : R ≠ CP := fun z => by rw [z, hC11] at hR0; cases hR0
          refine ⟨_, rfl, _, rfl, CP, _, rfl, .inl ⟨kvs2, Sum.inl p.1, by rw [upd_ne (Ne.symm nRC)]; exact hC11, rfl, by rw [sizeLine_eq]; omega, rfl⟩, ?_⟩
          rw [putK_new _ hnew]
          have tr : ∀ r u, H11 r = some (.lst u) → upd (upd H11 R (.lst ((F p.1).map V.int))) CP (.dK (kvs2 ++ [(Sum.inl p.1, V.ref R)])) r = some (.lst u) := fun r u e => by
            rw [upd_ne (fun z => by rw [z, hC11] at e; cases e), upd_ne (ne_of_none e hR0)]
            exact e
          refine ⟨⟨_, rfl⟩, (sm11.upd' (sm11.free hR0)).upd' (by rw [fz_ne nCS]; exact hCP), _, upd_same, ?_⟩
          rw [List.take_add_one, hj]
          exact Paired.snoc (sh11.tr tr) ⟨rfl, R, rfl, by rw [upd_ne nRC, upd_same]⟩
        · rintro σ H11 ⟨⟨t10, rfl⟩, sm11, kvs2, hC11, sh11⟩
          refine ⟨back_fz sm11, ?_⟩
          rw [back_cg e10]
          have sm12 := same_back sm11
          have sh12 : IsSheet (back H9 SH H11) kvs2 pl F := by
            rw [show kvs.length = pl.length from sh7.len, List.take_length] at sh11
            exact sh11.tr (fun r u e => by rw [back_ne (fun z => by rw [z, back_fz sm11] at e; cases e)]; exact e)
          have hC12 : back H9 SH H11 CP = some (.dK kvs2) := by rw [back_ne nCS]; exact hC11
          generalize back H9 SH H11 = H12 at sm12 sh12 hC12
          have smH12 : Same H7 H12 := sm8.trans (smL.trans sm12)
          have hL12 := sm12 L _ hL9
          have hl12 := smH12 l _ hl7
          have hSH12 := smH12 SH _ hSH7
          refine ⟨_, rfl, _, rfl, _, rfl, _, rfl, .ref ga, g, hd, L, pl, CP, kvs2, F, nz, rfl, ig.tk (smH7.trans smH12).tk, hw, by omega, hL12, by omega, pk, hC12, Ne.symm nCL, sh12, frd, hF7, fun H13 sm13 => ?_⟩
          rw [kb]
          have smA := smH12.trans sm13
          refine ⟨_, rfl, _, _, _, true, rfl, .bl _, rfl, _, rfl, iteF ?_⟩
          refine ⟨_, rfl, _, rfl, rfl, _, rfl, iteNS rfl ?_⟩
          refine ⟨_, rfl, _, rfl, L, l, _, _, rfl, rfl, .inl (sm13 L _ hL12), .inl (smA l _ hl7), same_kvP _ _ pl, _, rfl, iteF ?_⟩
          refine ⟨_, rfl, _, rfl, CP, SH, _, _, rfl, rfl, .inl (sm13 CP _ hC12), .inl (smA SH _ hSH7), same_sheets (sh12.tr fun r u e => sm13 r _ e) (sh7.tr fun r u e => smA r _ e), _, rfl, iteF ?_⟩
          cases sb : shownB g hd pl nz F
          · exact ⟨_, rfl, _, rfl, _, rfl, iteT (q _)⟩
          · refine ⟨_, rfl, _, rfl, _, rfl, iteF ?_⟩
            refine ⟨_, rfl, _, rfl, _, rfl, .ref ga, g, hd, l, pl, rfl, ig.tk (smH7.trans smA).tk, (fun p hp' => Nat.le_of_lt (hgw p hp')), .inl (smA l _ hl7), by omega, pk, kb, fun H14 sm14 => ?_⟩
            rw [shown_lost frd kb sb]
            exact ⟨_, rfl, q _⟩
end
end K08

namespace K08
open PySem L2 Gm
/-! # what the top has written, and the law's head -/
theorem all_mk {l : PySem.W.OpenLaw} {w : World} {K : PySem.W.Frag} {h : Heap} {mg : Str → Option Value} {fa f1 f2 f3 f4 f5 f6 f7 f8 f9 f10 f11 f12 f13 f14 f15 f16 f17 f18 f19 f20 f21 : Addr} (X : K.In h) (G : h.Ns mainGlobals mg) (hfa : mg "law" = some (.ref fa))
    {od1 an1 od2 an2 od3 an3 od4 an4 od5 an5 od6 an6 od7 an7 od8 an8 od9 an9 od10 an10 od11 an11 od12 an12 od13 an13 od14 an14 od15 an15 od16 an16 od17 an17 od18 an18 od19 an19 od20 an20 od21 an21 : Option Addr} {sl1 sl2 sl3 sl4 sl5 sl6 sl7 sl8 sl9 sl10 sl11 sl12 sl13 sl14 sl15 sl16 sl17 sl18 sl19 sl20 sl21 : Array (Option Value)}
    {oc1 kV1 dc1 pm1 cd1 ct1 oc2 kV2 dc2 pm2 cd2 ct2 oc3 kV3 dc3 pm3 cd3 ct3 oc4 kV4 dc4 pm4 cd4 ct4 oc5 kV5 dc5 pm5 cd5 ct5 oc6 kV6 dc6 pm6 cd6 ct6 oc7 kV7 dc7 pm7 cd7 ct7 oc8 kV8 dc8 pm8 cd8 ct8 oc9 kV9 dc9 pm9 cd9 ct9 oc10 kV10 dc10 pm10 cd10 ct10 oc11 kV11 dc11 pm11 cd11 ct11 oc12 kV12 dc12 pm12 cd12 ct12 oc13 kV13 dc13 pm13 cd13 ct13 oc14 kV14 dc14 pm14 cd14 ct14 oc15 kV15 dc15 pm15 cd15 ct15 oc16 kV16 dc16 pm16 cd16 ct16 oc17 kV17 dc17 pm17 cd17 ct17 oc18 kV18 dc18 pm18 cd18 ct18 oc19 kV19 dc19 pm19 cd19 ct19 oc20 kV20 dc20 pm20 cd20 ct20 oc21 kV21 dc21 pm21 cd21 ct21 : Value}
    (a1 : PySem.W.nsIn K mainGlobals "keeps" = some (some (.ref f1))) (l1 : K.lookup f1 = some ⟨oc1, od1, .func (PySem.W.fnOf "keeps" "keeps" (defArgs sKeeps) (defBody sKeeps) (defScope sKeeps) .none kV1 dc1 pm1 an1 cd1 ct1), sl1⟩) (c1 : PySem.W.codeIn K cd1 "keeps" = true) (k1 : PySem.W.keepIn K (.ref f1) = true)
    (a2 : PySem.W.nsIn K mainGlobals "kept" = some (some (.ref f2))) (l2 : K.lookup f2 = some ⟨oc2, od2, .func (PySem.W.fnOf "kept" "kept" (defArgs sKeptAt) (defBody sKeptAt) (defScope sKeptAt) .none kV2 dc2 pm2 an2 cd2 ct2), sl2⟩) (c2 : PySem.W.codeIn K cd2 "kept" = true) (k2 : PySem.W.keepIn K (.ref f2) = true)
    (a3 : PySem.W.nsIn K mainGlobals "followed" = some (some (.ref f3))) (l3 : K.lookup f3 = some ⟨oc3, od3, .func (PySem.W.fnOf "followed" "followed" (defArgs sFollowed) (defBody sFollowed) (defScope sFollowed) .none kV3 dc3 pm3 an3 cd3 ct3), sl3⟩) (c3 : PySem.W.codeIn K cd3 "followed" = true) (k3 : PySem.W.keepIn K (.ref f3) = true)
    (a4 : PySem.W.nsIn K mainGlobals "feared" = some (some (.ref f4))) (l4 : K.lookup f4 = some ⟨oc4, od4, .func (PySem.W.fnOf "feared" "feared" (defArgs sFeared) (defBody sFeared) (defScope sFeared) .none kV4 dc4 pm4 an4 cd4 ct4), sl4⟩) (c4 : PySem.W.codeIn K cd4 "feared" = true) (k4 : PySem.W.keepIn K (.ref f4) = true)
    (a5 : PySem.W.nsIn K mainGlobals "shows" = some (some (.ref f5))) (l5 : K.lookup f5 = some ⟨oc5, od5, .func (PySem.W.fnOf "shows" "shows" (defArgs sShows) (defBody sShows) (defScope sShows) .none kV5 dc5 pm5 an5 cd5 ct5), sl5⟩) (c5 : PySem.W.codeIn K cd5 "shows" = true) (k5 : PySem.W.keepIn K (.ref f5) = true)
    (a6 : PySem.W.nsIn K mainGlobals "shown_at" = some (some (.ref f6))) (l6 : K.lookup f6 = some ⟨oc6, od6, .func (PySem.W.fnOf "shown_at" "shown_at" (defArgs sShownAt) (defBody sShownAt) (defScope sShownAt) .none kV6 dc6 pm6 an6 cd6 ct6), sl6⟩) (c6 : PySem.W.codeIn K cd6 "shown_at" = true) (k6 : PySem.W.keepIn K (.ref f6) = true)
    (a7 : PySem.W.nsIn K mainGlobals "_law_cell_at" = some (some (.ref f7))) (l7 : K.lookup f7 = some ⟨oc7, od7, .func (PySem.W.fnOf "_law_cell_at" "_law_cell_at" (defArgs sCell) (defBody sCell) (defScope sCell) .none kV7 dc7 pm7 an7 cd7 ct7), sl7⟩) (c7 : PySem.W.codeIn K cd7 "_law_cell_at" = true) (k7 : PySem.W.keepIn K (.ref f7) = true)
    (a8 : PySem.W.nsIn K mainGlobals "_law_pick" = some (some (.ref f8))) (l8 : K.lookup f8 = some ⟨oc8, od8, .func (PySem.W.fnOf "_law_pick" "_law_pick" (defArgs sPick) (defBody sPick) (defScope sPick) .none kV8 dc8 pm8 an8 cd8 ct8), sl8⟩) (c8 : PySem.W.codeIn K cd8 "_law_pick" = true) (k8 : PySem.W.keepIn K (.ref f8) = true)
    (a9 : PySem.W.nsIn K mainGlobals "_law_mix" = some (some (.ref f9))) (l9 : K.lookup f9 = some ⟨oc9, od9, .func (PySem.W.fnOf "_law_mix" "_law_mix" (defArgs sMix) (defBody sMix) (defScope sMix) .none kV9 dc9 pm9 an9 cd9 ct9), sl9⟩) (c9 : PySem.W.codeIn K cd9 "_law_mix" = true) (k9 : PySem.W.keepIn K (.ref f9) = true)
    (a10 : PySem.W.nsIn K mainGlobals "_law_place" = some (some (.ref f10))) (l10 : K.lookup f10 = some ⟨oc10, od10, .func (PySem.W.fnOf "_law_place" "_law_place" (defArgs sPlace) (defBody sPlace) (defScope sPlace) .none kV10 dc10 pm10 an10 cd10 ct10), sl10⟩) (c10 : PySem.W.codeIn K cd10 "_law_place" = true) (k10 : PySem.W.keepIn K (.ref f10) = true)
    (a11 : PySem.W.nsIn K mainGlobals "_law_game" = some (some (.ref f11))) (l11 : K.lookup f11 = some ⟨oc11, od11, .func (PySem.W.fnOf "_law_game" "_law_game" (defArgs sGame) (defBody sGame) (defScope sGame) .none kV11 dc11 pm11 an11 cd11 ct11), sl11⟩) (c11 : PySem.W.codeIn K cd11 "_law_game" = true) (k11 : PySem.W.keepIn K (.ref f11) = true)
    (a12 : PySem.W.nsIn K mainGlobals "_law_drawn" = some (some (.ref f12))) (l12 : K.lookup f12 = some ⟨oc12, od12, .func (PySem.W.fnOf "_law_drawn" "_law_drawn" (defArgs sDrawn) (defBody sDrawn) (defScope sDrawn) .none kV12 dc12 pm12 an12 cd12 ct12), sl12⟩) (c12 : PySem.W.codeIn K cd12 "_law_drawn" = true) (k12 : PySem.W.keepIn K (.ref f12) = true)
    (a13 : PySem.W.nsIn K mainGlobals "_law_kept" = some (some (.ref f13))) (l13 : K.lookup f13 = some ⟨oc13, od13, .func (PySem.W.fnOf "_law_kept" "_law_kept" (defArgs sLKept) (defBody sLKept) (defScope sLKept) .none kV13 dc13 pm13 an13 cd13 ct13), sl13⟩) (c13 : PySem.W.codeIn K cd13 "_law_kept" = true) (k13 : PySem.W.keepIn K (.ref f13) = true)
    (a14 : PySem.W.nsIn K mainGlobals "_law_keeps" = some (some (.ref f14))) (l14 : K.lookup f14 = some ⟨oc14, od14, .func (PySem.W.fnOf "_law_keeps" "_law_keeps" (defArgs sLKeeps) (defBody sLKeeps) (defScope sLKeeps) .none kV14 dc14 pm14 an14 cd14 ct14), sl14⟩) (c14 : PySem.W.codeIn K cd14 "_law_keeps" = true) (k14 : PySem.W.keepIn K (.ref f14) = true)
    (a15 : PySem.W.nsIn K mainGlobals "_law_goes" = some (some (.ref f15))) (l15 : K.lookup f15 = some ⟨oc15, od15, .func (PySem.W.fnOf "_law_goes" "_law_goes" (defArgs sGoes) (defBody sGoes) (defScope sGoes) .none kV15 dc15 pm15 an15 cd15 ct15), sl15⟩) (c15 : PySem.W.codeIn K cd15 "_law_goes" = true) (k15 : PySem.W.keepIn K (.ref f15) = true)
    (a16 : PySem.W.nsIn K mainGlobals "_law_lost_round" = some (some (.ref f16))) (l16 : K.lookup f16 = some ⟨oc16, od16, .func (PySem.W.fnOf "_law_lost_round" "_law_lost_round" (defArgs sLost) (defBody sLost) (defScope sLost) .none kV16 dc16 pm16 an16 cd16 ct16), sl16⟩) (c16 : PySem.W.codeIn K cd16 "_law_lost_round" = true) (k16 : PySem.W.keepIn K (.ref f16) = true)
    (a17 : PySem.W.nsIn K mainGlobals "_law_feared" = some (some (.ref f17))) (l17 : K.lookup f17 = some ⟨oc17, od17, .func (PySem.W.fnOf "_law_feared" "_law_feared" (defArgs sLFeared) (defBody sLFeared) (defScope sLFeared) .none kV17 dc17 pm17 an17 cd17 ct17), sl17⟩) (c17 : PySem.W.codeIn K cd17 "_law_feared" = true) (k17 : PySem.W.keepIn K (.ref f17) = true)
    (a18 : PySem.W.nsIn K mainGlobals "_law_counts" = some (some (.ref f18))) (l18 : K.lookup f18 = some ⟨oc18, od18, .func (PySem.W.fnOf "_law_counts" "_law_counts" (defArgs sLCounts) (defBody sLCounts) (defScope sLCounts) .none kV18 dc18 pm18 an18 cd18 ct18), sl18⟩) (c18 : PySem.W.codeIn K cd18 "_law_counts" = true) (k18 : PySem.W.keepIn K (.ref f18) = true)
    (a19 : PySem.W.nsIn K mainGlobals "_law_shown" = some (some (.ref f19))) (l19 : K.lookup f19 = some ⟨oc19, od19, .func (PySem.W.fnOf "_law_shown" "_law_shown" (defArgs sLShown) (defBody sLShown) (defScope sLShown) .none kV19 dc19 pm19 an19 cd19 ct19), sl19⟩) (c19 : PySem.W.codeIn K cd19 "_law_shown" = true) (k19 : PySem.W.keepIn K (.ref f19) = true)
    (a20 : PySem.W.nsIn K mainGlobals "_law_sheet" = some (some (.ref f20))) (l20 : K.lookup f20 = some ⟨oc20, od20, .func (PySem.W.fnOf "_law_sheet" "_law_sheet" (defArgs sSheet) (defBody sSheet) (defScope sSheet) .none kV20 dc20 pm20 an20 cd20 ct20), sl20⟩) (c20 : PySem.W.codeIn K cd20 "_law_sheet" = true) (k20 : PySem.W.keepIn K (.ref f20) = true)
    (a21 : PySem.W.nsIn K mainGlobals "law" = some (some (.ref f21))) (l21 : K.lookup f21 = some ⟨oc21, od21, .func (PySem.W.fnOf "law" "law" (defArgs sLaw) (defBody sLaw) (defScope sLaw) .none kV21 dc21 pm21 an21 cd21 ct21), sl21⟩) (c21 : PySem.W.codeIn K cd21 "law" = true) (k21 : PySem.W.keepIn K (.ref f21) = true)
    (z1 : PySem.W.nsIn K mainGlobals "len" = some none) (z2 : PySem.W.nsIn K mainGlobals "range" = some none) (z3 : PySem.W.nsIn K mainGlobals "sorted" = some none) (z4 : PySem.W.nsIn K mainGlobals "set" = some none) (z5 : PySem.W.nsIn K mainGlobals "tuple" = some none) (z6 : PySem.W.nsIn K mainGlobals "isinstance" = some none) (z7 : PySem.W.nsIn K mainGlobals "int" = some none) (z8 : PySem.W.nsIn K mainGlobals "bool" = some none) (z9 : PySem.W.nsIn K mainGlobals "list" = some none) (z10 : PySem.W.nsIn K mainGlobals "all" = some none) (z11 : PySem.W.nsIn K mainGlobals "dict" = some none) (z12 : PySem.W.nsIn K mainGlobals "max" = some none) (z13 : PySem.W.nsIn K mainGlobals "enumerate" = some none)
    : ∃ fd : FuncData, (∀ (s : Shared) (v : Value), BindsTo s fd ⟨[v], []⟩ [("script", v)]) ∧ ∀ base : Heap, K.In base → base.Ns mainGlobals mg → FnOk l.prog w K mg base CX0 5 fa fd ["script"] (spLaw K) := by
  have e := hfa.symm.trans (PySem.W.mg_of X G a21)
  cases e
  have T : Txt mg := ⟨PySem.W.mg_none_of X G z1, PySem.W.mg_none_of X G z2, PySem.W.mg_none_of X G z3, PySem.W.mg_none_of X G z4, PySem.W.mg_none_of X G z5, PySem.W.mg_none_of X G z6, PySem.W.mg_none_of X G z7, PySem.W.mg_none_of X G z8, PySem.W.mg_none_of X G z9, PySem.W.mg_none_of X G z10, PySem.W.mg_none_of X G z11, PySem.W.mg_none_of X G z12, PySem.W.mg_none_of X G z13⟩
  have F1 := fun_mk (st := sKeeps) l1 c1 k1
  have F2 := fun_mk (st := sKeptAt) l2 c2 k2
  have F3 := fun_mk (st := sFollowed) l3 c3 k3
  have F4 := fun_mk (st := sFeared) l4 c4 k4
  have F5 := fun_mk (st := sShows) l5 c5 k5
  have F6 := fun_mk (st := sShownAt) l6 c6 k6
  have F7 := fun_mk (st := sCell) l7 c7 k7
  have F8 := fun_mk (st := sPick) l8 c8 k8
  have F9 := fun_mk (st := sMix) l9 c9 k9
  have F10 := fun_mk (st := sPlace) l10 c10 k10
  have F11 := fun_mk (st := sGame) l11 c11 k11
  have F12 := fun_mk (st := sDrawn) l12 c12 k12
  have F13 := fun_mk (st := sLKept) l13 c13 k13
  have F14 := fun_mk (st := sLKeeps) l14 c14 k14
  have F15 := fun_mk (st := sGoes) l15 c15 k15
  have F16 := fun_mk (st := sLost) l16 c16 k16
  have F17 := fun_mk (st := sLFeared) l17 c17 k17
  have F18 := fun_mk (st := sLCounts) l18 c18 k18
  have F19 := fun_mk (st := sLShown) l19 c19 k19
  have F20 := fun_mk (st := sSheet) l20 c20 k20
  have F21 := fun_mk (st := sLaw) l21 c21 k21
  have b1 := F1.binds (ps := ["game", "hand", "plan"]) fun _ _ _ _ _ _ us hl => match us, hl with | [_, _, _], _ => rfl
  have m1 := PySem.W.mg_of X G a1
  have b2 := F2.binds (ps := ["game", "hand", "plan", "place"]) fun _ _ _ _ _ _ us hl => match us, hl with | [_, _, _, _], _ => rfl
  have m2 := PySem.W.mg_of X G a2
  have b3 := F3.binds (ps := ["game", "hand", "plan", "place"]) fun _ _ _ _ _ _ us hl => match us, hl with | [_, _, _, _], _ => rfl
  have m3 := PySem.W.mg_of X G a3
  have b4 := F4.binds (ps := ["game", "hand"]) fun _ _ _ _ _ _ us hl => match us, hl with | [_, _], _ => rfl
  have m4 := PySem.W.mg_of X G a4
  have b5 := F5.binds (ps := ["game", "hand", "plan", "paper"]) fun _ _ _ _ _ _ us hl => match us, hl with | [_, _, _, _], _ => rfl
  have m5 := PySem.W.mg_of X G a5
  have b6 := F6.binds (ps := ["game", "hand", "plan", "numbers", "crowns", "place"]) fun _ _ _ _ _ _ us hl => match us, hl with | [_, _, _, _, _, _], _ => rfl
  have m6 := PySem.W.mg_of X G a6
  have b7 := F7.binds (ps := ["script", "k"]) fun _ _ _ _ _ _ us hl => match us, hl with | [_, _], _ => rfl
  have m7 := PySem.W.mg_of X G a7
  have b8 := F8.binds (ps := ["script", "k"]) fun _ _ _ _ _ _ us hl => match us, hl with | [_, _], _ => rfl
  have m8 := PySem.W.mg_of X G a8
  have b9 := F9.binds (ps := ["cell", "k"]) fun _ _ _ _ _ _ us hl => match us, hl with | [_, _], _ => rfl
  have m9 := PySem.W.mg_of X G a9
  have b10 := F10.binds (ps := ["number", "many", "spread", "low"]) fun _ _ _ _ _ _ us hl => match us, hl with | [_, _, _, _], _ => rfl
  have m10 := PySem.W.mg_of X G a10
  have b11 := F11.binds (ps := ["script", "start", "many", "spread", "low"]) fun _ _ _ _ _ _ us hl => match us, hl with | [_, _, _, _, _], _ => rfl
  have m11 := PySem.W.mg_of X G a11
  have b12 := F12.binds (ps := ["script", "start", "game", "hand"]) fun _ _ _ _ _ _ us hl => match us, hl with | [_, _, _, _], _ => rfl
  have m12 := PySem.W.mg_of X G a12
  have b13 := F13.binds (ps := ["game", "hand", "plan"]) fun _ _ _ _ _ _ us hl => match us, hl with | [_, _, _], _ => rfl
  have m13 := PySem.W.mg_of X G a13
  have b14 := F14.binds (ps := ["game", "hand", "plan"]) fun _ _ _ _ _ _ us hl => match us, hl with | [_, _, _], _ => rfl
  have m14 := PySem.W.mg_of X G a14
  have b15 := F15.binds (ps := ["game", "hand", "plan", "place"]) fun _ _ _ _ _ _ us hl => match us, hl with | [_, _, _, _], _ => rfl
  have m15 := PySem.W.mg_of X G a15
  have b16 := F16.binds (ps := ["game", "hand", "plan"]) fun _ _ _ _ _ _ us hl => match us, hl with | [_, _, _], _ => rfl
  have m16 := PySem.W.mg_of X G a16
  have b17 := F17.binds (ps := ["game", "hand"]) fun _ _ _ _ _ _ us hl => match us, hl with | [_, _], _ => rfl
  have m17 := PySem.W.mg_of X G a17
  have b18 := F18.binds (ps := ["game", "hand", "plan", "crown"]) fun _ _ _ _ _ _ us hl => match us, hl with | [_, _, _, _], _ => rfl
  have m18 := PySem.W.mg_of X G a18
  have b19 := F19.binds (ps := ["game", "hand", "plan", "crowns", "sheet"]) fun _ _ _ _ _ _ us hl => match us, hl with | [_, _, _, _, _], _ => rfl
  have m19 := PySem.W.mg_of X G a19
  have b20 := F20.binds (ps := ["game", "hand", "plan", "crowns", "cell"]) fun _ _ _ _ _ _ us hl => match us, hl with | [_, _, _, _, _], _ => rfl
  have m20 := PySem.W.mg_of X G a20
  exact ⟨PySem.W.fnOf "law" "law" (defArgs sLaw) (defBody sLaw) (defScope sLaw) .none kV21 dc21 pm21 an21 cd21 ct21, fun s v => .of_eq rfl, fun base _ _ =>
    (ok_law F21 T (ok_cell F7 T ) k7 m7 b7 (ok_game F11 T (ok_pick F8 T F7 m7 b7) k8 m8 b8 (ok_mix F9 ) k9 m9 b9 (ok_place F10 T ) k10 m10 b10) k11 m11 b11 (ok_drawn F12 T (ok_mix F9 ) k9 m9 b9 (ok_pick F8 T F7 m7 b7) k8 m8 b8) k12 m12 b12 (ok_lkept F13 T ) k13 m13 b13 (ok_lkeeps F14 T ) k14 m14 b14 (ok_lfeared F17 T ) k17 m17 b17 (ok_sheet F20 T (ok_lcounts F18 T (ok_goes F15 T ) k15 m15 b15) k18 m18 b18) k20 m20 b20 (ok_mix F9 ) k9 m9 b9 (ok_lshown F19 T (ok_goes F15 T ) k15 m15 b15) k19 m19 b19 (ok_shows F5 T (ok_keeps F1 T (ok_keptat F2 T (ok_followed F3 T ) k3 m3 b3) k2 m2 b2) k1 m1 b1 (ok_feared F4 T ) k4 m4 b4 (ok_shownat F6 T (ok_followed F3 T ) k3 m3 b3) k6 m6 b6) k5 m5 b5 (ok_lost F16 T (ok_goes F15 T ) k15 m15 b15) k16 m16 b16)⟩
theorem walk {l : PySem.W.OpenLaw} {q : Program} {loose : List Str} {XP : (Str → Option Value) → Heap → Prop} {YP : World → Heap → Prop} {d : DefRec} {K : Params → PySem.W.Frag} (hn : l.most = some 63) (hdf : d.params.defaults = [])
    (hY : ∀ (w : World) (h : Heap), YP w h → (K w.params).In h)
    (F : ∀ (w : World) (mg : Str → Option Value) (fa : Addr) (h : Heap), (K w.params).In h → h.Ns mainGlobals mg → mg d.name = some (.ref fa) →
      ∃ fd : FuncData, (∀ (s : Shared) (u : Value), BindsTo s fd ⟨[u], []⟩ [("script", u)]) ∧ ∀ base : Heap, (K w.params).In base → base.Ns mainGlobals mg → FnOk l.prog w (K w.params) mg base CX0 5 fa fd ["script"] (spLaw (K w.params))) :
    PySem.W.WalkO q loose XP YP l.row.toRowW d [] (fun f vs => PySem.call f vs) :=
  L2.walk_of (n := 63) (k := 5) (x := "script") (CX := fun _ => CX0) (sp := fun w => spLaw (K w.params)) hn (by decide) hdf ⟨rfl, by decide, by decide⟩ hY F (fun _ _ a ns hl _ hS => ⟨a, ns, rfl, hS, hl, fun _ => rfl⟩) fun _ _ _ _ _ z => z
end K08
open PySem PySem.W PyProof.Rows
set_option maxHeartbeats 0 in
theorem PySem.Challenge.cw_crownwalk_k08_shows_holds : PySem.Challenge.rw_crownwalk_k08_shows.Holds := by
  w_on; o_law; k_head; (case hw => w_witness2)
  k_fill
  refine K08.walk (l := PySem.Challenge.rw_crownwalk_k08_shows) rfl rfl (fun w h Y => PySem.W.kIn_of Y) ?F
  case F =>
    intro w mg fa h KX G hmg
    refine' K08.all_mk KX G hmg ?a1 ?l1 ?c1 ?k1 ?a2 ?l2 ?c2 ?k2 ?a3 ?l3 ?c3 ?k3 ?a4 ?l4 ?c4 ?k4 ?a5 ?l5 ?c5 ?k5 ?a6 ?l6 ?c6 ?k6 ?a7 ?l7 ?c7 ?k7 ?a8 ?l8 ?c8 ?k8 ?a9 ?l9 ?c9 ?k9 ?a10 ?l10 ?c10 ?k10 ?a11 ?l11 ?c11 ?k11 ?a12 ?l12 ?c12 ?k12 ?a13 ?l13 ?c13 ?k13 ?a14 ?l14 ?c14 ?k14 ?a15 ?l15 ?c15 ?k15 ?a16 ?l16 ?c16 ?k16 ?a17 ?l17 ?c17 ?k17 ?a18 ?l18 ?c18 ?k18 ?a19 ?l19 ?c19 ?k19 ?a20 ?l20 ?c20 ?k20 ?a21 ?l21 ?c21 ?k21 ?z1 ?z2 ?z3 ?z4 ?z5 ?z6 ?z7 ?z8 ?z9 ?z10 ?z11 ?z12 ?z13
    (case a1 => k_is); (case l1 => k_is); (case c1 => k_is); (case k1 => k_is)
    (case a2 => k_is); (case l2 => k_is); (case c2 => k_is); (case k2 => k_is)
    (case a3 => k_is); (case l3 => k_is); (case c3 => k_is); (case k3 => k_is)
    (case a4 => k_is); (case l4 => k_is); (case c4 => k_is); (case k4 => k_is)
    (case a5 => k_is); (case l5 => k_is); (case c5 => k_is); (case k5 => k_is)
    (case a6 => k_is); (case l6 => k_is); (case c6 => k_is); (case k6 => k_is)
    (case a7 => k_is); (case l7 => k_is); (case c7 => k_is); (case k7 => k_is)
    (case a8 => k_is); (case l8 => k_is); (case c8 => k_is); (case k8 => k_is)
    (case a9 => k_is); (case l9 => k_is); (case c9 => k_is); (case k9 => k_is)
    (case a10 => k_is); (case l10 => k_is); (case c10 => k_is); (case k10 => k_is)
    (case a11 => k_is); (case l11 => k_is); (case c11 => k_is); (case k11 => k_is)
    (case a12 => k_is); (case l12 => k_is); (case c12 => k_is); (case k12 => k_is)
    (case a13 => k_is); (case l13 => k_is); (case c13 => k_is); (case k13 => k_is)
    (case a14 => k_is); (case l14 => k_is); (case c14 => k_is); (case k14 => k_is)
    (case a15 => k_is); (case l15 => k_is); (case c15 => k_is); (case k15 => k_is)
    (case a16 => k_is); (case l16 => k_is); (case c16 => k_is); (case k16 => k_is)
    (case a17 => k_is); (case l17 => k_is); (case c17 => k_is); (case k17 => k_is)
    (case a18 => k_is); (case l18 => k_is); (case c18 => k_is); (case k18 => k_is)
    (case a19 => k_is); (case l19 => k_is); (case c19 => k_is); (case k19 => k_is)
    (case a20 => k_is); (case l20 => k_is); (case c20 => k_is); (case k20 => k_is)
    (case a21 => k_is); (case l21 => k_is); (case c21 => k_is); (case k21 => k_is)
    (case z1 => k_is); (case z2 => k_is); (case z3 => k_is); (case z4 => k_is); (case z5 => k_is); (case z6 => k_is); (case z7 => k_is); (case z8 => k_is); (case z9 => k_is); (case z10 => k_is); (case z11 => k_is); (case z12 => k_is); (case z13 => k_is)
#print axioms PySem.Challenge.cw_crownwalk_k08_shows_holds

